import PyProof.Rows.All
import Wide.All
import OpenK.AllK
import Wide.FinOn
import KE.KExcInit
import KE.KStateDown
import HandS.Ends
import HandS.Words
import HandS.Head0
import HandS.Head1
import HandS.Head2
import HandS.HeadHook1
import HandS.HeadHook2
import HandS.ForMost
import HandS.Wide
import HandS.WideBits
import HandS.ClsMeth
import HandS.Property
import HandS.Defaults
import HandS.Gcd
import HandS.FStr
import HandS.StrMore
import HandS.IsInst
import KE.KOpsOwn
import HandS.OwnEq
import PyProof.Rows.Range3
import HandS.MakeKwOnly
import HandS.ExcInit
import PyProof.ExcBaseAll.ValueError
import PyProof.ExcBaseAll.LookupError
import PyProof.ExcBaseAll.RuntimeError
import PyProof.ExcBaseAll.ArithmeticError
import KE.KExcIs
import HandS.Evl
import HandS.Text
import HandS.Iter
import HandS.TupLe
import HandS.SortRule
import HandS.DeepEq
import HandS.Walk
import PySem.Challenge.RW_evenloads_k10_kinds_and_errors
set_option Elab.async false
set_option linter.all false
set_option maxRecDepth 100000
set_option maxHeartbeats 4000000
/-! a head that is run in the kernel: what is looked at -/
namespace Ly
open PySem PySem.Spec PyProof.Rows L2
/-! ### what is looked at: the globals, their classes' dicts and defs' code, the methods, their code -/
def nextM (g : Addr → Option Obj) (as : List Addr) : List Addr := as.flatMap fun a => match g a with
  | some o => (match o.data with
    | .cls cd => [cd.ns]
    | .func fd => He.refV fd.code
    | .dict es _ => es.toList.flatMap fun e => He.refV e.val
    | _ => [])
  | none => []
def asM (g : Addr → Option Obj) : List Addr :=
  mainGlobals :: (nextM g [mainGlobals] ++ (nextM g (nextM g [mainGlobals]) ++ (nextM g (nextM g (nextM g [mainGlobals])) ++ nextM g (nextM g (nextM g (nextM g [mainGlobals]))))))
abbrev AlM : Type := He.AlD × Bool
def obsM (fa : List He.Fa) (fn : List He.DefD) (ex : PySem.W.Frag → Bool) (g : Addr → Option Obj) : AlM := (He.obsD fa fn (He.frG g (asM g)), ex (He.frG g (asM g)))
structure SaysM (fa : List He.Fa) (fn : List He.DefD) (ex : PySem.W.Frag → Bool) (K : PySem.W.Frag) : Prop where
  d : He.SaysD fa fn K
  e : ex K = true
def hookM (fa : List He.Fa) (fn : List He.DefD) (ex : PySem.W.Frag → Bool) : PySem.W.Hook where
  α := AlM
  obs := fun s => obsM fa fn ex s.heap.get?
  val := fun _ => (He.valD fn, true)
  says := fun _ h => ∃ K : PySem.W.Frag, K.In h ∧ SaysM fa fn ex K
  of := fun _ _ e => ⟨_, He.frG_in, congrArg (fun z : AlM => z.1) e, congrArg (fun z : AlM => z.2) e⟩
  keeps := fun _ _ _ ⟨K, hK, c⟩ k => ⟨K, PySem.W.Frag.In.keeps hK k, c⟩
theorem obsM_eq {fa : List He.Fa} {fn : List He.DefD} {ex : PySem.W.Frag → Bool} {g : Addr → Option Obj} {s : Shared} (h : ∀ a, g a = s.heap.get? a) : obsM fa fn ex g = (hookM fa fn ex).obs s := by
  obtain rfl : g = s.heap.get? := funext h
  rfl
def dfn (x : Str) (st : Stmt) : He.DefD := ⟨(x, none), x, x, defArgs st, defBody st, defScope st, [], []⟩
def dme (c m : Str) (qual : Str) (st : Stmt) : He.DefD := ⟨(c, some m), m, qual, defArgs st, defBody st, defScope st, [], []⟩
def bTyp : Nat → String
  | 0 => "ValueError"
  | 1 => "LookupError"
  | 2 => "RuntimeError"
  | _ => "ArithmeticError"
def bNew : Nat → String
  | 0 => "ValueError.__new__"
  | 1 => "LookupError.__new__"
  | 2 => "RuntimeError.__new__"
  | _ => "ArithmeticError.__new__"
def bTail (k : Nat) : List Value := [.type (bTyp k), .type "Exception", .type "BaseException", .type "object"]
def mroB (K : PySem.W.Frag) (C : Addr) (l : List Value) : Bool := match PySem.W.clsIn K C with
  | some cd => decide (cd.mro = l)
  | none => false
def exB (K : PySem.W.Frag) (C : Addr) (k : Nat) : Bool := PySem.W.excInitIn K C (bTail k) (bNew k) && (PySem.W.excOver K C (bTail k) && (PySem.W.hasDictIn K C && (He.eqO (PySem.W.findIn K (.ref C) "__setattr__") (some (some (.builtin "object.__setattr__"))) &&
  (He.eqO (PySem.W.findIn K (.ref C) "__getattribute__") (some (some (.builtin "BaseException.__getattribute__"))) && (He.eqO (PySem.W.findIn K (.ref C) "__getattr__") (some none) && (decide (PySem.W.subIn K (.ref C) (.type "BaseException") = some true) && (PySem.W.keepIn K (.ref C) &&
  (He.eqO (PySem.W.findIn K (.ref C) "__class__") (some (some (.builtin "object.__class__"))) && (He.eqO (PySem.W.specialIn K (.builtin "object.__class__") "__get__") (some (some (.builtin "getset_descriptor.__get__"))) &&
  (decide (PySem.W.takesIn K (.builtin "object.__class__") = some true) && decide (PySem.W.mroIn K C (.type "object") = some true)))))))))))
/-- a class with its base and its place among the built-ins -/
structure LeafD where
  nm : Str
  base : Str
  k : Nat
def leafB (K : PySem.W.Frag) (d : LeafD) : Bool := exB K (He.ga K d.nm) d.k && (mroB K (He.ga K d.nm) (.ref (He.ga K d.nm) :: .ref (He.ga K d.base) :: bTail d.k) && (decide (PySem.W.typeIn K (.ref (He.ga K d.nm)) = some (.type "type")) &&
  (He.eqO (PySem.W.findIn K (.ref (He.ga K d.nm)) "__init__") (some (some (.ref (He.ma K (He.ga K d.nm) "__init__")))) && decide (PySem.W.typeIn K (.ref (He.ma K (He.ga K d.nm) "__init__")) = some (.type "function")))))
def baseB (K : PySem.W.Frag) (d : Str × Nat) : Bool := mroB K (He.ga K d.1) (.ref (He.ga K d.1) :: bTail d.2) && decide (PySem.W.typeIn K (.ref (He.ga K d.1)) = some (.type "type"))
end Ly

namespace Lw
open PySem PySem.Spec PyProof.Rows L2 Ly
def top (i : Nat) : Stmt := PySem.Challenge.pw_evenloads_k10_kinds_and_errors.main.body.getD i (.Pass ⟨0, 0, 0, 0⟩)
abbrev s_is_integer : Stmt := top 1
abbrev s_is_count : Stmt := top 2
abbrev s_is_name : Stmt := top 3
abbrev s_InvalidNumber_init : Stmt := inClass (top 6) 0
abbrev s_InvalidName_init : Stmt := inClass (top 7) 0
abbrev s_InvalidMoves_init : Stmt := inClass (top 8) 0
abbrev s_InvalidServers_init : Stmt := inClass (top 9) 0
abbrev s_InvalidSpeed_init : Stmt := inClass (top 10) 0
abbrev s_InvalidTasks_init : Stmt := inClass (top 11) 0
abbrev s_InvalidTask_init : Stmt := inClass (top 12) 0
abbrev s_InvalidWork_init : Stmt := inClass (top 13) 0
abbrev s_InvalidYard_init : Stmt := inClass (top 14) 0
abbrev s_InvalidAmounts_init : Stmt := inClass (top 15) 0
abbrev s_WrongSum_init : Stmt := inClass (top 16) 0
abbrev s_InvalidPlan_init : Stmt := inClass (top 17) 0
abbrev s_InvalidGift_init : Stmt := inClass (top 18) 0
abbrev s_InvalidShare_init : Stmt := inClass (top 19) 0
abbrev s_InvalidLines_init : Stmt := inClass (top 20) 0
abbrev s_InvalidBounds_init : Stmt := inClass (top 21) 0
abbrev s_InvalidAssignment_init : Stmt := inClass (top 22) 0
abbrev s_InvalidText_init : Stmt := inClass (top 23) 0
abbrev s_InvalidClaim_init : Stmt := inClass (top 24) 0
abbrev s_InvalidCommand_init : Stmt := inClass (top 25) 0
abbrev s_UnknownServer_init : Stmt := inClass (top 27) 0
abbrev s_UnknownTask_init : Stmt := inClass (top 28) 0
abbrev s_UnknownPlace_init : Stmt := inClass (top 29) 0
abbrev s_ServerTaken_init : Stmt := inClass (top 31) 0
abbrev s_TaskTaken_init : Stmt := inClass (top 32) 0
abbrev s_PlaceTaken_init : Stmt := inClass (top 33) 0
abbrev s_LastPlace_init : Stmt := inClass (top 34) 0
abbrev s_OtherServers_init : Stmt := inClass (top 35) 0
abbrev s_OtherYard_init : Stmt := inClass (top 36) 0
abbrev s_Impossible_init : Stmt := inClass (top 37) 0
abbrev s_Overfull_init : Stmt := inClass (top 38) 0
abbrev s_OutOfSpan_init : Stmt := inClass (top 39) 0
abbrev s_NotWhole_init : Stmt := inClass (top 40) 0
abbrev s_NothingToUndo_init : Stmt := inClass (top 41) 0
abbrev s_CommandFailed_init : Stmt := inClass (top 42) 0
abbrev s_DividedByZero_init : Stmt := inClass (top 44) 0
abbrev s_TooMany_init : Stmt := inClass (top 45) 0
abbrev s_law_pot : Stmt := top 47
abbrev s_law_draw : Stmt := top 48
abbrev s_law_pick : Stmt := top 49
abbrev s_law_thing : Stmt := top 50
abbrev s_law_is_named : Stmt := top 51
abbrev s_law_kinds_right : Stmt := top 52
abbrev s_law_load_errors : Stmt := top 53
abbrev s_law_which_load : Stmt := top 54
abbrev s_law_other_errors : Stmt := top 55
abbrev s_law_which_other : Stmt := top 56
abbrev s_law_bases : Stmt := top 57
abbrev s_law_classes_right : Stmt := top 58
abbrev s_law_fields_right : Stmt := top 59
abbrev s_law_named_right : Stmt := top 60
abbrev s_law_right : Stmt := top 61
abbrev s_law : Stmt := top 62
structure Ad where
  InvalidNumber : Addr
  InvalidName : Addr
  InvalidMoves : Addr
  InvalidServers : Addr
  InvalidSpeed : Addr
  InvalidTasks : Addr
  InvalidTask : Addr
  InvalidWork : Addr
  InvalidYard : Addr
  InvalidAmounts : Addr
  WrongSum : Addr
  InvalidPlan : Addr
  InvalidGift : Addr
  InvalidShare : Addr
  InvalidLines : Addr
  InvalidBounds : Addr
  InvalidAssignment : Addr
  InvalidText : Addr
  InvalidClaim : Addr
  InvalidCommand : Addr
  UnknownServer : Addr
  UnknownTask : Addr
  UnknownPlace : Addr
  ServerTaken : Addr
  TaskTaken : Addr
  PlaceTaken : Addr
  LastPlace : Addr
  OtherServers : Addr
  OtherYard : Addr
  Impossible : Addr
  Overfull : Addr
  OutOfSpan : Addr
  NotWhole : Addr
  NothingToUndo : Addr
  CommandFailed : Addr
  DividedByZero : Addr
  TooMany : Addr
  LoadError : Addr
  MissingError : Addr
  StateError : Addr
  LimitError : Addr
end Lw

namespace Lw
open PySem PySem.Spec PyProof.Rows L2 Ly
def hfn0 : List He.DefD := [dfn "is_integer" s_is_integer, dfn "is_count" s_is_count, dfn "is_name" s_is_name, dfn "_law_pot" s_law_pot, dfn "_law_draw" s_law_draw, dfn "_law_pick" s_law_pick, dfn "_law_thing" s_law_thing, dfn "_law_is_named" s_law_is_named, dfn "_law_kinds_right" s_law_kinds_right, dfn "_law_load_errors" s_law_load_errors, dfn "_law_which_load" s_law_which_load, dfn "_law_other_errors" s_law_other_errors, dfn "_law_which_other" s_law_which_other, dfn "_law_bases" s_law_bases, dfn "_law_classes_right" s_law_classes_right, dfn "_law_fields_right" s_law_fields_right, dfn "_law_named_right" s_law_named_right, dfn "_law_right" s_law_right, dfn "law" s_law, dme "InvalidNumber" "__init__" "InvalidNumber.__init__" s_InvalidNumber_init]
def hfn1 : List He.DefD := [dme "InvalidName" "__init__" "InvalidName.__init__" s_InvalidName_init, dme "InvalidMoves" "__init__" "InvalidMoves.__init__" s_InvalidMoves_init, dme "InvalidServers" "__init__" "InvalidServers.__init__" s_InvalidServers_init, dme "InvalidSpeed" "__init__" "InvalidSpeed.__init__" s_InvalidSpeed_init, dme "InvalidTasks" "__init__" "InvalidTasks.__init__" s_InvalidTasks_init, dme "InvalidTask" "__init__" "InvalidTask.__init__" s_InvalidTask_init, dme "InvalidWork" "__init__" "InvalidWork.__init__" s_InvalidWork_init, dme "InvalidYard" "__init__" "InvalidYard.__init__" s_InvalidYard_init, dme "InvalidAmounts" "__init__" "InvalidAmounts.__init__" s_InvalidAmounts_init, dme "WrongSum" "__init__" "WrongSum.__init__" s_WrongSum_init, dme "InvalidPlan" "__init__" "InvalidPlan.__init__" s_InvalidPlan_init, dme "InvalidGift" "__init__" "InvalidGift.__init__" s_InvalidGift_init, dme "InvalidShare" "__init__" "InvalidShare.__init__" s_InvalidShare_init, dme "InvalidLines" "__init__" "InvalidLines.__init__" s_InvalidLines_init, dme "InvalidBounds" "__init__" "InvalidBounds.__init__" s_InvalidBounds_init, dme "InvalidAssignment" "__init__" "InvalidAssignment.__init__" s_InvalidAssignment_init, dme "InvalidText" "__init__" "InvalidText.__init__" s_InvalidText_init, dme "InvalidClaim" "__init__" "InvalidClaim.__init__" s_InvalidClaim_init, dme "InvalidCommand" "__init__" "InvalidCommand.__init__" s_InvalidCommand_init, dme "UnknownServer" "__init__" "UnknownServer.__init__" s_UnknownServer_init]
def hfn2 : List He.DefD := [dme "UnknownTask" "__init__" "UnknownTask.__init__" s_UnknownTask_init, dme "UnknownPlace" "__init__" "UnknownPlace.__init__" s_UnknownPlace_init, dme "ServerTaken" "__init__" "ServerTaken.__init__" s_ServerTaken_init, dme "TaskTaken" "__init__" "TaskTaken.__init__" s_TaskTaken_init, dme "PlaceTaken" "__init__" "PlaceTaken.__init__" s_PlaceTaken_init, dme "LastPlace" "__init__" "LastPlace.__init__" s_LastPlace_init, dme "OtherServers" "__init__" "OtherServers.__init__" s_OtherServers_init, dme "OtherYard" "__init__" "OtherYard.__init__" s_OtherYard_init, dme "Impossible" "__init__" "Impossible.__init__" s_Impossible_init, dme "Overfull" "__init__" "Overfull.__init__" s_Overfull_init, dme "OutOfSpan" "__init__" "OutOfSpan.__init__" s_OutOfSpan_init, dme "NotWhole" "__init__" "NotWhole.__init__" s_NotWhole_init, dme "NothingToUndo" "__init__" "NothingToUndo.__init__" s_NothingToUndo_init, dme "CommandFailed" "__init__" "CommandFailed.__init__" s_CommandFailed_init, dme "DividedByZero" "__init__" "DividedByZero.__init__" s_DividedByZero_init, dme "TooMany" "__init__" "TooMany.__init__" s_TooMany_init]
def hfn : List He.DefD := hfn0 ++ hfn1 ++ hfn2
def hfa0 : List He.Fa := [.glo "is_integer", .glo "is_count", .glo "is_name", .glo "_law_pot", .glo "_law_draw", .glo "_law_pick", .glo "_law_thing", .glo "_law_is_named", .glo "_law_kinds_right", .glo "_law_load_errors", .glo "_law_which_load", .glo "_law_other_errors", .glo "_law_which_other", .glo "_law_bases", .glo "_law_classes_right", .glo "_law_fields_right", .glo "_law_named_right", .glo "_law_right", .glo "law", .glo "InvalidNumber"]
def hfa1 : List He.Fa := [.glo "InvalidName", .glo "InvalidMoves", .glo "InvalidServers", .glo "InvalidSpeed", .glo "InvalidTasks", .glo "InvalidTask", .glo "InvalidWork", .glo "InvalidYard", .glo "InvalidAmounts", .glo "WrongSum", .glo "InvalidPlan", .glo "InvalidGift", .glo "InvalidShare", .glo "InvalidLines", .glo "InvalidBounds", .glo "InvalidAssignment", .glo "InvalidText", .glo "InvalidClaim", .glo "InvalidCommand", .glo "UnknownServer"]
def hfa2 : List He.Fa := [.glo "UnknownTask", .glo "UnknownPlace", .glo "ServerTaken", .glo "TaskTaken", .glo "PlaceTaken", .glo "LastPlace", .glo "OtherServers", .glo "OtherYard", .glo "Impossible", .glo "Overfull", .glo "OutOfSpan", .glo "NotWhole", .glo "NothingToUndo", .glo "CommandFailed", .glo "DividedByZero", .glo "TooMany", .glo "LoadError", .glo "MissingError", .glo "StateError", .glo "LimitError"]
def hfa3 : List He.Fa := [.free "abs", .free "len", .free "divmod", .free "max", .free "min", .free "all", .free "int", .free "str", .free "bool", .free "isinstance", .free "range", .free "repr", .free "tuple", .free "enumerate", .free "ValueError", .free "LookupError", .free "RuntimeError", .free "ArithmeticError", .free "TypeError", .noat "InvalidNumber" "value"]
def hfa4 : List He.Fa := [.noat "InvalidName" "value", .noat "InvalidMoves" "position", .noat "InvalidServers" "value", .noat "InvalidSpeed" "server", .noat "InvalidTasks" "value", .noat "InvalidTask" "name", .noat "InvalidWork" "value", .noat "InvalidYard" "value", .noat "InvalidAmounts" "value", .noat "WrongSum" "name", .noat "InvalidPlan" "value", .noat "InvalidGift" "value", .noat "InvalidShare" "value", .noat "InvalidLines" "position", .noat "InvalidBounds" "value", .noat "InvalidAssignment" "value", .noat "InvalidText" "line", .noat "InvalidClaim" "value", .noat "InvalidCommand" "value", .noat "UnknownServer" "value"]
def hfa5 : List He.Fa := [.noat "UnknownTask" "value", .noat "UnknownPlace" "value", .noat "ServerTaken" "value", .noat "TaskTaken" "value", .noat "PlaceTaken" "value", .noat "LastPlace" "value", .noat "OtherServers" "one", .noat "OtherServers" "other", .noat "OtherYard" "one", .noat "OtherYard" "other", .noat "Impossible" "position", .noat "Overfull" "bar", .noat "OutOfSpan" "value", .noat "NotWhole" "value", .noat "CommandFailed" "position", .noat "TooMany" "what", .noat "TooMany" "limit"]
def hfa : List He.Fa := hfa0 ++ hfa1 ++ hfa2 ++ hfa3 ++ hfa4 ++ hfa5
def hlf0 : List LeafD := [⟨"InvalidNumber", "LoadError", 0⟩, ⟨"InvalidName", "LoadError", 0⟩, ⟨"InvalidMoves", "LoadError", 0⟩, ⟨"InvalidServers", "LoadError", 0⟩, ⟨"InvalidSpeed", "LoadError", 0⟩, ⟨"InvalidTasks", "LoadError", 0⟩, ⟨"InvalidTask", "LoadError", 0⟩, ⟨"InvalidWork", "LoadError", 0⟩, ⟨"InvalidYard", "LoadError", 0⟩, ⟨"InvalidAmounts", "LoadError", 0⟩, ⟨"WrongSum", "LoadError", 0⟩, ⟨"InvalidPlan", "LoadError", 0⟩, ⟨"InvalidGift", "LoadError", 0⟩, ⟨"InvalidShare", "LoadError", 0⟩, ⟨"InvalidLines", "LoadError", 0⟩, ⟨"InvalidBounds", "LoadError", 0⟩, ⟨"InvalidAssignment", "LoadError", 0⟩, ⟨"InvalidText", "LoadError", 0⟩, ⟨"InvalidClaim", "LoadError", 0⟩, ⟨"InvalidCommand", "LoadError", 0⟩]
def hlf1 : List LeafD := [⟨"UnknownServer", "MissingError", 1⟩, ⟨"UnknownTask", "MissingError", 1⟩, ⟨"UnknownPlace", "MissingError", 1⟩, ⟨"ServerTaken", "StateError", 2⟩, ⟨"TaskTaken", "StateError", 2⟩, ⟨"PlaceTaken", "StateError", 2⟩, ⟨"LastPlace", "StateError", 2⟩, ⟨"OtherServers", "StateError", 2⟩, ⟨"OtherYard", "StateError", 2⟩, ⟨"Impossible", "StateError", 2⟩, ⟨"Overfull", "StateError", 2⟩, ⟨"OutOfSpan", "StateError", 2⟩, ⟨"NotWhole", "StateError", 2⟩, ⟨"NothingToUndo", "StateError", 2⟩, ⟨"CommandFailed", "StateError", 2⟩, ⟨"DividedByZero", "LimitError", 3⟩, ⟨"TooMany", "LimitError", 3⟩]
def hlf : List LeafD := hlf0 ++ hlf1
def hbs0 : List (Str × Nat) := [("LoadError", 0), ("MissingError", 1), ("StateError", 2), ("LimitError", 3)]
def hbs : List (Str × Nat) := hbs0
def adOf (K : PySem.W.Frag) : Ad := ⟨He.ga K "InvalidNumber", He.ga K "InvalidName", He.ga K "InvalidMoves", He.ga K "InvalidServers", He.ga K "InvalidSpeed", He.ga K "InvalidTasks", He.ga K "InvalidTask", He.ga K "InvalidWork", He.ga K "InvalidYard", He.ga K "InvalidAmounts", He.ga K "WrongSum", He.ga K "InvalidPlan", He.ga K "InvalidGift", He.ga K "InvalidShare", He.ga K "InvalidLines", He.ga K "InvalidBounds", He.ga K "InvalidAssignment", He.ga K "InvalidText", He.ga K "InvalidClaim", He.ga K "InvalidCommand", He.ga K "UnknownServer", He.ga K "UnknownTask", He.ga K "UnknownPlace", He.ga K "ServerTaken", He.ga K "TaskTaken", He.ga K "PlaceTaken", He.ga K "LastPlace", He.ga K "OtherServers", He.ga K "OtherYard", He.ga K "Impossible", He.ga K "Overfull", He.ga K "OutOfSpan", He.ga K "NotWhole", He.ga K "NothingToUndo", He.ga K "CommandFailed", He.ga K "DividedByZero", He.ga K "TooMany", He.ga K "LoadError", He.ga K "MissingError", He.ga K "StateError", He.ga K "LimitError"⟩
def hnd (K : PySem.W.Frag) : List Addr := [(adOf K).InvalidNumber, (adOf K).InvalidName, (adOf K).InvalidServers, (adOf K).InvalidTasks, (adOf K).InvalidWork, (adOf K).InvalidYard, (adOf K).InvalidAmounts, (adOf K).InvalidPlan, (adOf K).InvalidGift, (adOf K).InvalidShare, (adOf K).InvalidBounds, (adOf K).InvalidAssignment, (adOf K).InvalidClaim, (adOf K).InvalidCommand, (adOf K).InvalidMoves, (adOf K).InvalidLines, (adOf K).InvalidSpeed, (adOf K).InvalidTask, (adOf K).WrongSum, (adOf K).InvalidText, (adOf K).UnknownServer, (adOf K).UnknownTask, (adOf K).UnknownPlace, (adOf K).ServerTaken, (adOf K).TaskTaken, (adOf K).PlaceTaken, (adOf K).LastPlace, (adOf K).OutOfSpan, (adOf K).NotWhole, (adOf K).OtherServers, (adOf K).OtherYard, (adOf K).Impossible, (adOf K).CommandFailed, (adOf K).Overfull, (adOf K).NothingToUndo, (adOf K).DividedByZero, (adOf K).TooMany, (adOf K).LoadError, (adOf K).MissingError, (adOf K).StateError, (adOf K).LimitError]
def hex (K : PySem.W.Frag) : Bool := (hlf.all fun d => leafB K d) && ((hbs.all fun d => baseB K d) && decide (hnd K).Nodup)
abbrev HR : PySem.W.OpenRow := PySem.W.OpenLaw.row PySem.Challenge.rw_evenloads_k10_kinds_and_errors
abbrev hq : Program := PySem.W.view HR.prog [62]
def hnames0 : List Str := ["is_integer", "is_count", "is_name", "_law_pot", "_law_draw", "_law_pick", "_law_thing", "_law_is_named", "_law_kinds_right", "_law_load_errors", "_law_which_load", "_law_other_errors", "_law_which_other", "_law_bases", "_law_classes_right", "_law_fields_right", "_law_named_right", "_law_right", "InvalidNumber", "InvalidName", "InvalidMoves", "InvalidServers", "InvalidSpeed", "InvalidTasks", "InvalidTask", "InvalidWork", "InvalidYard", "InvalidAmounts", "WrongSum", "InvalidPlan"]
def hnames1 : List Str := ["InvalidGift", "InvalidShare", "InvalidLines", "InvalidBounds", "InvalidAssignment", "InvalidText", "InvalidClaim", "InvalidCommand", "UnknownServer", "UnknownTask", "UnknownPlace", "ServerTaken", "TaskTaken", "PlaceTaken", "LastPlace", "OtherServers", "OtherYard", "Impossible", "Overfull", "OutOfSpan", "NotWhole", "NothingToUndo", "CommandFailed", "DividedByZero", "TooMany", "LoadError", "MissingError", "StateError", "LimitError"]
def hnames : List Str := hnames0 ++ hnames1
def hob (s : PySem.W.SharedT) : AlM := obsM hfa hfn hex (HandSHeadRun.getT s)
theorem hob_eq (s : PySem.W.SharedT) : hob s = (hookM hfa hfn hex).obs s.abs := obsM_eq (HandSHeadRun.getT_eq s)
theorem hrun (w : World) : HandSHeadRun.RunEq HR hq (hookM hfa hfn hex) hob 11000 hnames w := by
  intro os
  kernel_rfl
end Lw

/-! My own layer: callable defs in one word, readings that unfold step by step. -/
namespace Ly
open PySem PySem.Spec PyProof.Rows L2

/-- where all stands -/
structure Wd where
  P : Program
  w : World
  K : PySem.W.Frag
  mg : Str → Option Value
  base : Heap

/-- a def of the module, without defaults, as it stands behind the top -/
structure GF (K : PySem.W.Frag) (mg : Str → Option Value) (x : Str) (st : Stmt) : Prop where
  ex : ∃ (f : Addr) (fd : FuncData), L2.Fun K x x st f fd ∧ mg x = some (.ref f)

/-- a def that may be called by its name -/
structure Cl (W : Wd) (k : Nat) (x : Str) (sp : Sp) : Prop where
  ex : ∃ (f : Addr) (fd : FuncData) (ps : List Str), FnOk W.P W.w W.K W.mg W.base CX0 k f fd ps sp ∧ W.mg x = some (.ref f) ∧ PySem.W.keepIn W.K (.ref f) = true ∧ Binds W.K fd ps []

theorem Cl.mono {W : Wd} {j k : Nat} {x : Str} {sp : Sp} (c : Cl W j x sp) (h : j ≤ k) : Cl W k x sp := by
  obtain ⟨f, fd, ps, F, a, b, d⟩ := c.ex
  exact ⟨f, fd, ps, F.mono h, a, b, d⟩
theorem Cl.imp {W : Wd} {k : Nat} {x : Str} {sp sp' : Sp} (c : Cl W k x sp) (h : ∀ vs H Q E, sp' vs H Q E → sp vs H Q E) : Cl W k x sp' := by
  obtain ⟨f, fd, ps, F, a, b, d⟩ := c.ex
  exact ⟨f, fd, ps, F.imp h, a, b, d⟩

theorem cl_of {W : Wd} {k : Nat} {x : Str} {st : Stmt} {N ps : List Str} {sp : Sp} (g : GF W.K W.mg x st) (S : FnScope N ps (defScope st))
    (hb : ∀ (kV doc pm : Value) (an : Option Addr) (cdv ct : Value) (us : List Value), us.length = ps.length → bindArgs (PySem.W.fnOf x x (defArgs st) (defBody st) (defScope st) .none kV doc pm an cdv ct) ⟨us, []⟩ = pure (ps.zip us))
    (len : ∀ vs H Q E, sp vs H Q E → vs.length = ps.length)
    (hbody : ∀ (f : Addr) (cdv : Value) (A : Around) (outer : List Env) (s : Shared) (H : Hp) (vs : List V) (Q : VK) (E : XK), Room k (A.deeper (envOfC x (defScope st) s.heap.objs.size f cdv)) → sp vs H Q E →
      ∃ t, PSs (cxOf CX0 W.P W.w W.K W.mg W.base N x (defScope st) f cdv A outer s H E).nox (defBody st) t ∧ t { nx := fun _ H' => Q .non H', rt := Q } (start N vs) H) : Cl W (k + 1) x sp := by
  obtain ⟨f, fd, F, hm⟩ := g.ex
  exact ⟨f, fd, ps, F.ok S len (fun cdv A outer s H vs Q E => hbody f cdv A outer s H vs Q E), hm, F.kp, F.binds hb⟩

section
variable {X : Cx} {k j : Nat} {x : Str} {sp : Sp} {p pos : Pos} {e : Expr} {es : List Expr} {t : TA}
theorem pe_cl (c : Cl ⟨X.prog, X.w, X.K, X.mg, X.base⟩ k x sp) (hr : Room j X.A) (hk : k ≤ j) (hg : Gl X x) (ha : PA X (e :: es) t)
    (hdb : (x == ("__debug__" : Str)) = false := by decide) (he : starEach (e :: es) X.env = (false, eval e X.env) :: starEach es X.env := by rfl) (hpl : (backTo pos (starEach es X.env)).any (·.1) = false := by rfl) :
    PE X (.Call (.Name x p) (e :: es) [] pos) (tCall sp [] E0 t) := by
  obtain ⟨f, fd, ps, F, hm, kp, b⟩ := c.ex
  exact pe_call F (hr.mono hk) hg hm kp b .nil pass0 ha hdb he hpl
end

/-! ### readings, step by step -/
section
variable {σ : L2.St} {H : Hp} {Q : VK} {K : PySem.W.Frag} {v x y : V} {ta tb te : TE} {t u : TA} {i j : Int} {D : Ends}
theorem i_var {n : Nat} (h : σ[n]? = some (some v)) (q : Q v H) : tVar n σ H Q := ⟨v, h, q⟩
theorem i_c (q : Q v H) : tC v σ H Q := q
theorem i_op {r : R2} (q : ta σ H fun x H1 => tb σ H1 fun y H2 => r x y H2 Q) : tOp r ta tb σ H Q := q
theorem i_un {r : V → Hp → VK → Prop} (q : ta σ H fun x H1 => r x H1 Q) : tUn r ta σ H Q := q
theorem i_I0 {g : Int → Int → V} (q : Q (g i j) H) : rI0 g (.int i) (.int j) H Q := ⟨i, j, rfl, rfl, q⟩
theorem i_I {C : Int → Int → Prop} {g : Int → Int → V} (c : C i j) (q : Q (g i j) H) : rI C g (.int i) (.int j) H Q := ⟨i, j, rfl, rfl, c, q⟩
theorem i_U {g : Int → V} (q : Q (g i) H) : rU g (.int i) H Q := ⟨i, rfl, q⟩
theorem i_nil {Q : List V → Hp → Prop} (q : Q [] H) : tNil σ H Q := q
theorem i_cons {Q : List V → Hp → Prop} (q : ta σ H fun x H1 => t σ H1 fun xs H2 => Q (x :: xs) H2) : tCons ta t σ H Q := q
theorem i_cb {r : List V → Hp → VK → Prop} (q : t σ H fun vs H1 => r vs H1 Q) : tCB r t σ H Q := q
theorem i_call {sp : Sp} {E : XK} (q : t σ H fun vs H1 => sp vs H1 Q E) : tCall sp [] E t σ H Q := by
  unfold tCall
  simpa only [List.append_nil] using q
theorem i_ret {te : TE} (q : te σ H D.rt) : tRet te D σ H := q
theorem i_seq {t u : TS} (q : t { D with nx := u D } σ H) : tSeq t u D σ H := q
theorem i_next (q : D.nx σ H) : tNext D σ H := q
theorem i_asg {g : TG} (q : te σ H fun x H1 => g x σ H1 D.nx) : tAsg te g D σ H := q
theorem i_gname {n : Nat} {Q : L2.St → Hp → Prop} (q : Q (σ.set n (some v)) H) : gName n v σ H Q := q
theorem i_if {c : TT} {t u : TS} (q : c σ H fun b H1 => if b = true then t D σ H1 else u D σ H1) : tIfS c t u D σ H := q
theorem i_dec {p A B : Prop} [Decidable p] (h1 : p → A) (h2 : ¬ p → B) : if decide p = true then A else B := by
  by_cases h : p
  · rw [if_pos (decide_eq_true h)]
    exact h1 h
  · rw [if_neg (by rw [decide_eq_false h]; exact Bool.false_ne_true)]
    exact h2 h
theorem i_start {t : TS} {σ' : L2.St} (e : σ = σ') (h : t D σ' H) : t D σ H := by
  rw [e]
  exact h
theorem i_test {te : TE} {Q : Bool → Hp → Prop} (q : te σ H fun x H1 => ∃ k, x = .bl k ∧ Q k H1) : tTest te σ H Q := q
theorem i_gsub {to ti : TE} {s : TSet} {Q : L2.St → Hp → Prop} (q : to σ H fun o H1 => ti σ H1 fun i H2 => s o i v H2 fun H3 => Q σ H3) : gSub to ti s v σ H Q := q
theorem i_ixL {p : Addr} {xs : List V} (h : SqL K H p xs) (ha : atI xs i = some v) (q : Q v H) : rIxL K (.ref p) (.int i) H Q := ⟨p, xs, i, v, rfl, rfl, h, ha, q⟩
theorem i_ixT {p : Addr} {xs : List V} (h : SqT K H p xs) (ha : atI xs i = some v) (q : Q v H) : rIxT K (.ref p) (.int i) H Q := ⟨p, xs, i, v, rfl, rfl, h, ha, q⟩
end
end Ly

namespace Ly
open PySem PySem.Spec PyProof.Rows L2
/-! ### rules for values of several kinds -/
def rInt1 : List V → Hp → VK → Prop := fun xs H Q => (∃ i, xs = [.int i] ∧ Q (.int i) H) ∨ ∃ k, xs = [.bl k] ∧ Q (.int (if k then 1 else 0)) H
theorem call_int1U {X : Cx} : CallR X (.type "int") rInt1 := call_int1
theorem i_int {H : Hp} {Q : VK} {i : Int} (q : Q (.int i) H) : rInt1 [.int i] H Q := .inl ⟨i, rfl, q⟩
def rAbs : List V → Hp → VK → Prop := fun xs H Q => ∃ i, xs = [.int i] ∧ Q (.int (if i < 0 then -i else i)) H
theorem call_absU {X : Cx} : CallR X (.builtin "abs") rAbs := call_abs
theorem i_abs {H : Hp} {Q : VK} {i : Int} (q : Q (.int (if i < 0 then -i else i)) H) : rAbs [.int i] H Q := ⟨i, rfl, q⟩
def rMax2 : List V → Hp → VK → Prop := fun xs H Q => ∃ i j, xs = [.int i, .int j] ∧ Q (.int (if j > i then j else i)) H
theorem call_max2U {X : Cx} (hc : X.calm = true) : CallR X (.builtin "max") rMax2 := call_max2 hc
theorem i_max2 {H : Hp} {Q : VK} {i j : Int} (q : Q (.int (if j > i then j else i)) H) : rMax2 [.int i, .int j] H Q := ⟨i, j, rfl, q⟩
def rMin2 : List V → Hp → VK → Prop := fun xs H Q => ∃ i j, xs = [.int i, .int j] ∧ Q (.int (if j < i then j else i)) H
theorem call_min2U {X : Cx} (hc : X.calm = true) : CallR X (.builtin "min") rMin2 := call_min2 hc
theorem i_min2 {H : Hp} {Q : VK} {i j : Int} (q : Q (.int (if j < i then j else i)) H) : rMin2 [.int i, .int j] H Q := ⟨i, j, rfl, q⟩
def rLen (K : PySem.W.Frag) : List V → Hp → VK → Prop := fun xs H Q => ∃ x n, xs = [x] ∧ LenV K x H n ∧ Q (.int n) H
theorem call_lenU {X : Cx} : CallR X (.builtin "len") (rLen X.K) := call_len
theorem i_len_l {K : PySem.W.Frag} {H : Hp} {Q : VK} {p : Addr} {xs : List V} (h : H p = some (.lst xs)) (q : Q (.int xs.length) H) : rLen K [.ref p] H Q := ⟨_, xs.length, rfl, .inl ⟨xs, SqL.of h, rfl⟩, q⟩
theorem i_len_L {K : PySem.W.Frag} {H : Hp} {Q : VK} {p : Addr} {xs : List V} (h : SqL K H p xs) (q : Q (.int xs.length) H) : rLen K [.ref p] H Q := ⟨_, xs.length, rfl, .inl ⟨xs, h, rfl⟩, q⟩
theorem i_len_t {K : PySem.W.Frag} {H : Hp} {Q : VK} {p : Addr} {xs : List V} (h : H p = some (.tup xs)) (q : Q (.int xs.length) H) : rLen K [.ref p] H Q := ⟨_, xs.length, rfl, .inr ⟨xs, SqT.of h, rfl⟩, q⟩
theorem i_len_s {K : PySem.W.Frag} {H : Hp} {Q : VK} {x : Str} (h : x.length ≤ sizeLine) (q : Q (.int x.length) H) : rLen K [.str x] H Q := ⟨_, x.length, rfl, ⟨h, rfl⟩, q⟩
def rDivmod : List V → Hp → VK → Prop := fun xs H Q => ∃ i j, xs = [.int i, .int j] ∧ CDivP i j ∧ ∀ p, H p = none → Q (.ref p) (upd H p (.tup [.int (i / j), .int (i % j)]))
theorem call_divmodU {X : Cx} : CallR X (.builtin "divmod") rDivmod := call_divmodW
theorem i_divmod {H : Hp} {Q : VK} {i j : Int} (c : CDivP i j) (q : ∀ p, H p = none → Q (.ref p) (upd H p (.tup [.int (i / j), .int (i % j)]))) : rDivmod [.int i, .int j] H Q := ⟨i, j, rfl, c, q⟩
def rOr (r s : R2) : R2 := fun x y H Q => r x y H Q ∨ s x y H Q
section
variable {X : Cx} {f : Value → Value → Sem Value} {r s : R2}
theorem opr_or (h : OpR X f r) (h' : OpR X f s) : OpR X f (rOr r s) := fun pins sh σ H x y v u Q I rx ry q => by
  rcases q with q | q
  · exact h pins sh σ H x y v u Q I rx ry q
  · exact h' pins sh σ H x y v u Q I rx ry q
def rAddS : R2 := fun x y H Q => ∃ i j, x = .str i ∧ y = .str j ∧ i.length + j.length ≤ sizeLine ∧ Q (.str (i ++ j)) H
def rAddU : R2 := rOr (rI0 fun i j => .int (i + j)) (rOr rAddS rCat)
theorem op_addU : OpR X (binaryOp .Add) rAddU := opr_or op_add (opr_or op_add_str op_cat)
def rSubU : R2 := rI0 fun i j => .int (i - j)
theorem op_subU : OpR X (binaryOp .Sub) rSubU := op_sub
def rMulU : R2 := rOr (rI CMulW fun i j => .int (i * j)) rRep
theorem op_mulU : OpR X (binaryOp .Mult) rMulU := opr_or op_mulW op_rep
def rFdU : R2 := rI CDivW fun i j => .int (i / j)
theorem op_fdivU : OpR X (binaryOp .FloorDiv) rFdU := op_fdivW
def rMdU : R2 := rI (fun _ j => 0 < j) fun i j => .int (i % j)
theorem op_modU : OpR X (binaryOp .Mod) rMdU := op_mod
def rEqU (K : PySem.W.Frag) : R2 := rOr rEq (rEqD K)
def rNeU (K : PySem.W.Frag) : R2 := rOr rNe (rNeD K)
theorem op_eqU (hu : X.A.units + 64 < cLine) : OpR X (compareOp .Eq) (rEqU X.K) := opr_or op_eq (op_eqD hu)
theorem op_neU (hu : X.A.units + 64 < cLine) : OpR X (compareOp .NotEq) (rNeU X.K) := opr_or op_ne (op_neD hu)
theorem ix_U : IxR X (rIx X.K) := ix_seq
end
section
variable {σ : L2.St} {H : Hp} {Q : VK} {K : PySem.W.Frag} {v x y : V} {i j : Int}
theorem i_add_i (q : Q (.int (i + j)) H) : rAddU (.int i) (.int j) H Q := .inl ⟨i, j, rfl, rfl, q⟩
theorem i_add_s {a b : Str} (h : a.length + b.length ≤ sizeLine) (q : Q (.str (a ++ b)) H) : rAddU (.str a) (.str b) H Q := .inr (.inl ⟨a, b, rfl, rfl, h, q⟩)
theorem i_sub_i (q : Q (.int (i - j)) H) : rSubU (.int i) (.int j) H Q := ⟨i, j, rfl, rfl, q⟩
theorem i_mul_i (h : CMulW i j) (q : Q (.int (i * j)) H) : rMulU (.int i) (.int j) H Q := .inl ⟨i, j, rfl, rfl, h, q⟩
theorem i_fd_i (h : CDivW i j) (q : Q (.int (i / j)) H) : rFdU (.int i) (.int j) H Q := ⟨i, j, rfl, rfl, h, q⟩
theorem i_md_i (h : 0 < j) (q : Q (.int (i % j)) H) : rMdU (.int i) (.int j) H Q := ⟨i, j, rfl, rfl, h, q⟩
theorem i_eq_s (h : scal x y = true) (q : Q (.bl (decide (x = y))) H) : rEqU K x y H Q := .inl ⟨h, q⟩
theorem i_ne_s (h : scal x y = true) (q : Q (.bl (!decide (x = y))) H) : rNeU K x y H Q := .inl ⟨h, q⟩
theorem i_ix_l {p : Addr} {xs : List V} (h : H p = some (.lst xs)) (ha : atI xs i = some v) (q : Q v H) : rIx K (.ref p) (.int i) H Q := .inl ⟨p, xs, i, v, rfl, rfl, SqL.of h, ha, q⟩
theorem i_ix_L {p : Addr} {xs : List V} (h : SqL K H p xs) (ha : atI xs i = some v) (q : Q v H) : rIx K (.ref p) (.int i) H Q := .inl ⟨p, xs, i, v, rfl, rfl, h, ha, q⟩
theorem i_ix_t {p : Addr} {xs : List V} (h : H p = some (.tup xs)) (ha : atI xs i = some v) (q : Q v H) : rIx K (.ref p) (.int i) H Q := .inr (.inl ⟨p, xs, i, v, rfl, rfl, SqT.of h, ha, q⟩)
end
end Ly

/-! Operators of own classes, static methods, keywords. -/
namespace Ly
open PySem PySem.Spec PyProof.Rows L2

/-! ### a def run where a special method is wanted -/
theorem rel_ni {v : V} {u : Value} (r : RelV v u) : u ≠ .notImplemented := by
  intro z
  subst z
  cases v <;> first | (cases r; done) | (obtain ⟨_, q⟩ := r; exact Value.noConfusion q)
theorem cmpback {X : Cx} {pins : List (Addr × Obj)} {σ : L2.St} {Q : VK} {t : Sem Value} {A : Around} {s : Shared} (h : wpAny (model X.prog X.w) A t (EP X pins σ Q) X.xe s) :
    wpAny (model X.prog X.w) A t (PySem.W.CmpBack (EP X pins σ Q)) X.xe s := by
  refine wpAny_mono h (fun u s' q => ?_) fun _ _ e => e
  obtain ⟨v, H', I, r, q⟩ := q
  have n := rel_ni r
  cases u <;> first | exact (n rfl).elim | exact ⟨v, H', I, r, q⟩

section
variable {X : Cx} {C f : Addr} {fd : FuncData} {ps : List Str} {sp : Sp} {k : Nat} {op : Operator}
/-- both of one own class -/
def rOwn2 (C : Addr) (sp : Sp) : R2 := fun x y H Q => ∃ a b dx dy fs gs, x = .ref a ∧ y = .ref b ∧ H a = some (.ins C dx fs) ∧ H b = some (.ins C dy gs) ∧ sp [x, y] H Q E0
theorem op_own2 (F : FnOk X.prog X.w X.K X.mg X.base CX0 k f fd ps sp) (hr : Room k X.A) (hb : Binds X.K fd ps []) (hs : PySem.W.findIn X.K (.ref C) (PySem.dunder op.info.2) = some (some (.ref f)))
    (hf : PySem.W.isFn X.K (.ref f) = true) (hc : PySem.W.selfFirst X.K C = true) : OpR X (binaryOp op) (rOwn2 C sp) := by
  intro pins s σ H x y v u Q I rx ry q
  obtain ⟨a, b, dx, dy, fs, gs, rfl, rfl, ha, hb', q⟩ := q
  cases rx
  cases ry
  obtain ⟨mA, J, _⟩ := ins_get I.hok ha
  obtain ⟨mB, J', _⟩ := ins_get I.hok hb'
  obtain ⟨od, J, _⟩ := J.look
  obtain ⟨od', J', _⟩ := J'.look
  obtain ⟨m, hF⟩ := I.fr
  exact PySem.W.binop_K hF I.ok.mod.kin J J'.type hc hs hf (cmpback (run_fn (us := [.ref a, .ref b]) (vs := [.ref a, .ref b]) F hr hb .nil pass0 I (.cons rfl (.cons rfl .nil)) q))
/-- own op int -/
def rOwnI (C : Addr) (sp : Sp) : R2 := fun x y H Q => ∃ a i dx fs, x = .ref a ∧ y = .int i ∧ H a = some (.ins C dx fs) ∧ sp [x, y] H Q E0
theorem op_ownI {fo ro rc : Option Value} (F : FnOk X.prog X.w X.K X.mg X.base CX0 k f fd ps sp) (hr : Room k X.A) (hb : Binds X.K fd ps []) (hs : PySem.W.findIn X.K (.ref C) (PySem.dunder op.info.2) = some (some (.ref f)))
    (hf : PySem.W.isFn X.K (.ref f) = true) (hc : PySem.W.selfFirst X.K C = true) (hrc : PySem.W.findIn X.K (.ref C) (dunderR op.info.2) = some rc) (hp : rc = none ∨ ∃ g : Addr, rc = some (.ref g))
    (h1 : PySem.W.findIn X.K (.type "int") (PySem.dunder op.info.2) = some fo) (h2 : PySem.W.findIn X.K (.type "int") (dunderR op.info.2) = some ro) (hsub : PySem.W.subIn X.K (.type "int") (.ref C) = some false) : OpR X (binaryOp op) (rOwnI C sp) := by
  intro pins s σ H x y v u Q I rx ry q
  obtain ⟨a, i, dx, fs, rfl, rfl, ha, q⟩ := q
  cases rx
  obtain ⟨t, rfl⟩ := ry
  obtain ⟨mA, J, _⟩ := ins_get I.hok ha
  obtain ⟨od, J, _⟩ := J.look
  obtain ⟨m, hF⟩ := I.fr
  exact PySem.W.ksp_binT (T := "int") hF I.ok.mod.kin J rfl hc hs hf hrc hp h1 h2 hsub (cmpback (run_fn (us := [.ref a, .int i t]) (vs := [.ref a, .int i]) F hr hb .nil pass0 I (.cons rfl (.cons ⟨t, rfl⟩ .nil)) q))
/-- - own -/
def uOwn (C : Addr) (sp : Sp) : V → Hp → VK → Prop := fun x H Q => ∃ a dx fs, x = .ref a ∧ H a = some (.ins C dx fs) ∧ sp [x] H Q E0
theorem un_own (F : FnOk X.prog X.w X.K X.mg X.base CX0 k f fd ps sp) (hr : Room k X.A) (hb : Binds X.K fd ps []) (hs : PySem.W.findIn X.K (.ref C) "__neg__" = some (some (.ref f)))
    (hf : PySem.W.isFn X.K (.ref f) = true) : UnR X (unaryOp .USub) (uOwn C sp) := by
  intro pins s σ H x v Q I rx q
  obtain ⟨a, dx, fs, rfl, ha, q⟩ := q
  cases rx
  obtain ⟨mA, J, _⟩ := ins_get I.hok ha
  obtain ⟨od, J, _⟩ := J.look
  obtain ⟨m, hF⟩ := I.fr
  exact PySem.W.ksp_neg hF I.ok.mod.kin J hs hf (run_fn (us := [.ref a]) (vs := [.ref a]) F hr hb .nil pass0 I (.cons rfl .nil) q)
end

/-! ### int op own: the reflected method -/
section
open PySem.W PySem.Calls
variable {M : Model} {A : Around} {E : Value → Shared → Prop} {s : Shared} {Q : Fin → Shared → Prop}
theorem asInt_inst {y C dx : Addr} {Q : Option Int → Shared → Prop} (ho : s.heap.get? y = some (instObj C dx)) (q : Q none s) : wpAny M A (asInt? (.ref y)) Q E s := by
  unfold asInt?
  refine wpAny_bind (wpAny_load ho ?_)
  exact wpAny_pure q
theorem bin_ni {nm : String} {f : Int → Int → Sem Fin} {i : Int} {t : Tok} {y C dx : Addr} (ho : s.heap.get? y = some (instObj C dx)) (q : Q (.done (.ret .notImplemented)) s) :
    wpAny M A (Builtin.Int.intBinary nm f false ⟨[.int i t, .ref y], []⟩) Q E s := by
  unfold Builtin.Int.intBinary
  refine wpAny_bind (m := slotArgs nm 1 ⟨[.int i t, .ref y], []⟩) ?_
  have e : slotArgs nm 1 ⟨[.int i t, .ref y], []⟩ = pure (.int i t, [.ref y]) := by
    first | rfl | kernel_rfl
  rw [e]
  refine wpAny_pure ?_
  refine wpAny_bind ?_
  unfold Builtin.Int.intOfSelf
  refine wpAny_bind (m := asInt? (.int i t)) (wpAny_pure (wpAny_pure ?_))
  refine wpAny_bind (asInt_inst ho ?_)
  refine wpAny_bind (wpAny_rule ?_)
  exact wpAny_pure q
end
/-- an int's own operator, and that it declines an instance -/
structure IntOp (nm : String) (id : String) (B : Builtin) : Prop where
  slot : Slot "int" (PySem.dunder nm) id
  entry : entryFor table id = some B
  args : ∀ a b, argsOk id ⟨[a, b], []⟩
  ni : ∀ {M : Model} {A : Around} {E : Value → Shared → Prop} {s : Shared} {Q : Fin → Shared → Prop} {i : Int} {t : Tok} {y C dx : Addr}, s.heap.get? y = some (PySem.W.instObj C dx) → Q (.done (.ret .notImplemented)) s →
    wpAny M A (B ⟨[.int i t, .ref y], []⟩) Q E s
theorem io_add : IntOp "add" "int.__add__" Builtin.«int.__add__» := ⟨F.slot_int_add, F.entry_int_add, F.args_int_add_2, fun ho q => by
  unfold Builtin.«int.__add__»
  exact bin_ni ho q⟩
theorem io_sub : IntOp "sub" "int.__sub__" Builtin.«int.__sub__» := ⟨F.slot_int_sub, F.entry_int_sub, F.args_int_sub_2, fun ho q => by
  unfold Builtin.«int.__sub__»
  exact bin_ni ho q⟩
theorem io_mul : IntOp "mul" "int.__mul__" Builtin.«int.__mul__» := ⟨F.slot_int_mul, F.entry_int_mul, F.args_int_mul_2, fun ho q => by
  unfold Builtin.«int.__mul__»
  exact bin_ni ho q⟩
theorem io_mod : IntOp "mod" "int.__mod__" Builtin.«int.__mod__» := ⟨F.slot_int_mod, F.entry_int_mod, F.args_int_mod_2, fun ho q => by
  unfold Builtin.«int.__mod__»
  exact bin_ni ho q⟩
theorem io_fd : IntOp "floordiv" "int.__floordiv__" Builtin.«int.__floordiv__» := ⟨F.slot_int_floordiv, F.entry_int_floordiv, F.args_int_floordiv_2, fun {M A E s Q i t y C dx} ho q => by
  unfold Builtin.«int.__floordiv__» Builtin.exactOperandsForPylong
  refine wpAny_bind ?_
  rw [if_pos (show (({ pos := [Value.int i t, Value.ref y] } : Args).pos.any Value.onHeap = true) from rfl)]
  refine wpAny_bind (m := asInt? (.int i t)) (wpAny_pure (wpAny_bind (asInt_inst ho (wpAny_pure ?_))))
  exact bin_ni ho q⟩

section
open PySem.W
variable {X : Cx} {C f : Addr} {fd : FuncData} {ps : List Str} {sp : Sp} {k : Nat} {op : Operator}
def rIOwn (C : Addr) (sp : Sp) : R2 := fun x y H Q => ∃ a i dx fs, x = .int i ∧ y = .ref a ∧ H a = some (.ins C dx fs) ∧ sp [y, x] H Q E0
theorem op_Iown {id : String} {B : Builtin} {fo ro : Option Value} (io : IntOp op.info.2 id B) (F : FnOk X.prog X.w X.K X.mg X.base CX0 k f fd ps sp) (hr : Room k X.A) (hb : Binds X.K fd ps []) (hs : PySem.W.findIn X.K (.ref C) (dunderR op.info.2) = some (some (.ref f)))
    (hf : PySem.W.isFn X.K (.ref f) = true) (hc : PySem.W.selfFirst X.K C = true) {g : Addr} (hl : PySem.W.findIn X.K (.ref C) (PySem.dunder op.info.2) = some (some (.ref g)))
    (h1 : PySem.W.findIn X.K (.type "int") (PySem.dunder op.info.2) = some fo) (h2 : PySem.W.findIn X.K (.type "int") (dunderR op.info.2) = some ro) (h12 : ((fo.isSome && !isSeqSlot fo) || (ro.isSome && !isSeqSlot ro)) = true)
    (hsub : PySem.W.subIn X.K (.ref C) (.type "int") = some false) : OpR X (binaryOp op) (rIOwn C sp) := by
  intro pins s σ H x y v u Q I rx ry q
  obtain ⟨a, i, dx, fs, rfl, rfl, ha, q⟩ := q
  cases ry
  obtain ⟨t, rfl⟩ := rx
  obtain ⟨mA, J, _⟩ := ins_get I.hok ha
  have hinst : s.heap.get? a = some (instObj C dx) := by
    obtain ⟨_, _, _, e, _⟩ := (show ObjOk X.prog X.w H s.heap a (.ins C dx fs) from I.hok a _ ha)
    exact e
  obtain ⟨od, J, _⟩ := J.look
  obtain ⟨m, hF⟩ := I.fr
  have KX := I.kIn
  obtain ⟨cd, rest, hcd, hm⟩ := ksp_first hc
  rcases hi : op.info with ⟨sym, nm'⟩
  rw [hi] at hs h1 h2 hl io
  dsimp only at hs h1 h2 hl io
  have one := ksp_try (E := X.xe) (M := model X.prog X.w) KX J hs hf (cmpback (run_fn (us := [.ref a, .int i t]) (vs := [.ref a, .int i]) F hr hb .nil pass0 I (.cons rfl (.cons ⟨t, rfl⟩ .nil)) q))
  obtain ⟨hh, gg, d, tt, os⟩ := s
  have L1 : Looks (model X.prog X.w) hh (typeOf (.int i t)) (.type "int") := Looks.of_pure rfl
  have L2 : Looks (model X.prog X.w) hh (typeOf (.ref a)) (.ref C) := J.type
  have L3 : Looks (model X.prog X.w) hh (fillsNumberSlot (.type "int") nm') true := by
    have z := ksp_fillsT (M := model X.prog X.w) KX h1 h2
    rw [h12] at z
    exact z
  have L4 : Looks (model X.prog X.w) hh (fillsNumberSlot (.ref C) nm') true := fills_K KX hcd hm hl
  have L5 : Looks (model X.prog X.w) hh (isSubtype (.ref C) (.type "int")) false := looks_subIn KX hsub
  have L6 : Looks (model X.prog X.w) hh (numberSlotInPython (.type "int") nm') false := Looks.of_pure rfl
  have hne : (Value.type "int" == Value.ref C) = false := Bool.eq_false_iff.mpr fun q => by cases beq_iff_eq.mp q
  have two : wpAny (model X.prog X.w) X.A (tryMethod (.int i t) (PySem.dunder nm') (.ref a)) (fun r s' => r = none ∧ s' = ⟨hh, gg, d, tt, os⟩) X.xe ⟨hh, gg, d, tt, os⟩ := by
    refine wpAny_tryMethod_declines (typeIs_int _ i t) io.slot ?_
    refine GQ.call_here io.slot (typeIs_int _ i t) io.entry (io.args _ _) ?_
    exact io.ni hinst ⟨rfl, rfl, rfl⟩
  simp only [binaryOp, hi]
  refine wpAny_holding (wpAny_bind ?_)
  unfold binaryOp1
  refine wpAny_bind (L1.at (wpAny_bind (L2.at (wpAny_bind (L3.at ?_)))))
  simp only [hne, Bool.false_eq_true, if_false]
  ksp_lk
  refine wpAny_mono two (fun r s' hr' => ?_) fun _ _ e => e
  obtain ⟨rfl, rfl⟩ := hr'
  ksp_lk
  refine wpAny_mono one (fun r s' hr' => ?_) fun _ _ e => e
  obtain ⟨v, rfl, hq⟩ := hr'
  ksp_lk
  exact hq
end

/-! ### abs, str, repr of an instance by its own method -/
section
open PySem.W PySem.Calls
variable {X : Cx} {C f : Addr} {fd : FuncData} {ps : List Str} {sp : Sp} {k : Nat}
/-- a def run somewhere below the running body -/
theorem run_at {pins : List (Addr × Obj)} {σ : L2.St} {H : Hp} {s : Shared} {Q : VK} {us : List Value} {vs : List V} {A' : Around} {E' : Value → Shared → Prop} (F : FnOk X.prog X.w X.K X.mg X.base CX0 k f fd ps sp) (hr : Room k A') (hfr : A'.frames = X.A.frames) (hb : Binds X.K fd ps [])
    (I : Inv X pins σ H s) (r : Vals vs us) (h : sp vs H Q E0) : wpAny (model X.prog X.w) A' (call (.ref f) us) (EP X pins σ Q) E' s := by
  have e0 : Env0 X.prog X.w X.K X.mg X.base A' X.stack s H := by
    have e := I.env0
    exact ⟨by rw [hfr]; exact e.frames, e.mod, e.bs, e.bsz, e.funs, e.frf, e.hok, e.bare⟩
  have hl : (us ++ []).length = ps.length := by
    rw [List.append_nil, ← r.length]
    exact F.len _ _ _ _ h
  refine wpAny_call (codeAny_mono (F.run A' X.stack s H ⟨us, []⟩ us vs Q E0 hr e0 (by
    have z := hb s us I.kIn hl
    rw [List.append_nil] at z
    exact z) r h) fun r s' hq => ?_)
  cases r with
  | error e => exact False.elim hq
  | ok fl =>
    cases fl with
    | ret u => exact I.after hq
    | next => exact False.elim hq
    | brk => exact False.elim hq
    | cont => exact False.elim hq

def rCOwn (C : Addr) (sp : Sp) : List V → Hp → VK → Prop := fun xs H Q => ∃ a dx fs, xs = [.ref a] ∧ H a = some (.ins C dx fs) ∧ sp [.ref a] H Q E0
theorem call_abs_own (F : FnOk X.prog X.w X.K X.mg X.base CX0 k f fd ps sp) (hr : Room (k + 1) X.A) (hb : Binds X.K fd ps []) (hs : PySem.W.findIn X.K (.ref C) "__abs__" = some (some (.ref f)))
    (hf : PySem.W.isFn X.K (.ref f) = true) : CallR X (.builtin "abs") (rCOwn C sp) := by
  intro pins s σ H xs us Q I r q
  obtain ⟨a, dx, fs, rfl, ha, q⟩ := q
  obtain ⟨u, rfl, ru⟩ := vals1 r
  cases ru
  obtain ⟨mA, J, _⟩ := ins_get I.hok ha
  obtain ⟨od, J, _⟩ := J.look
  refine call_function_entry kind_abs plain_abs entry_abs (args_abs _) ?_
  unfold Builtin.«abs»
  refine wpAny_bind (m := oneArg "abs" _) (wpAny_pure ?_)
  refine wpAny_bind (m := callSpecial? (.ref a) (Str.ofString "__abs__")) (special_fn I.kIn J hs (beq_iff_eq.mp hf) ?_)
  refine wpAny_mono (run_at (us := [.ref a]) (vs := [.ref a]) F hr.in1 rfl hb I (.cons rfl .nil) q) (fun v s' hv => ?_) fun _ _ e => e
  exact wpAny_pure ⟨v, rfl, hv⟩

theorem meetsIn_str_new {prog : Program} {w : World} {v : Value} : MeetsIn prog w (Builtin.«str.__new__» ⟨[.type "str", v], []⟩)
    (fun A R s => wpAny (model prog w) A.in1 (Builtin.Str.strOf v) (fun r s' => R (.ok (.ret r)) s') (fun e s' => R (.error e) s') s) := by
  refine MeetsIn.of_wp fun A R s h => ?_
  rw [str_new_tree v]
  refine wpAny_bind (wpAny_pure ?_)
  refine wpAny_bind (wpAny_of_eq isSubtype_str_str ?_)
  exact wpAny_bind (wpAny_mono h (fun r s' h' => wpAny_pure ⟨_, rfl, h'⟩) fun _ _ e => e)
theorem room_in1s {k : Nat} {A : Around} (r : Room (k + 2) A) : Room k A.in1.in1 := r.in1.in1
theorem call_str_own (F : FnOk X.prog X.w X.K X.mg X.base CX0 k f fd ps sp) (hr : Room (k + 3) X.A) (hb : Binds X.K fd ps []) (hs : PySem.W.findIn X.K (.ref C) "__str__" = some (some (.ref f)))
    (hf : PySem.W.isFn X.K (.ref f) = true) : CallR X (.type "str") (fun xs H Q => ∃ a dx fs, xs = [.ref a] ∧ H a = some (.ins C dx fs) ∧ sp [.ref a] H (fun v H' => (∃ z, v = .str z) ∧ Q v H') E0) := by
  intro pins s σ H xs us Q I r q
  obtain ⟨a, dx, fs, rfl, ha, q⟩ := q
  obtain ⟨u, rfl, ru⟩ := vals1 r
  cases ru
  obtain ⟨mA, J, _⟩ := ins_get I.hok ha
  obtain ⟨od, J, _⟩ := J.look
  refine callType_newIn PySem.F.called_str (by decide) (PySem.F.typeCall_str_1 _) (PySem.F.newCall_str_1 _) (fun obj => PySem.F.args_object_init_2 obj _) PySem.F.entry_str_new meetsIn_str_new ?_
  show wpAny (model X.prog X.w) X.A.in1.in1 (Builtin.Str.strOf (.ref a)) _ _ s
  unfold Builtin.Str.strOf
  rw [if_neg (show ¬ Builtin.Str.isExactStr (Value.ref a) = true from Bool.false_ne_true)]
  refine wpAny_bind (wpAny_cRoomFor (room_in1s hr).units0 ?_)
  refine wpAny_bind (m := callSpecial? (.ref a) (Str.ofString "__str__")) (special_fn I.kIn J hs (beq_iff_eq.mp hf) ?_)
  refine wpAny_mono (run_at (us := [.ref a]) (vs := [.ref a]) F ((room_in1s hr).mono (Nat.le_succ k)) rfl hb I (.cons rfl .nil) q) (fun v s' hv => ?_) fun _ _ e => e
  obtain ⟨v0, H', I', rv, ⟨z, rfl⟩, qv⟩ := hv
  obtain ⟨tk, rfl⟩ := rv
  refine wpAny_bind (m := asStr? (.str z tk)) (wpAny_pure ?_)
  exact wpAny_pure ⟨typeIs_str _ _ _, ⟨.str z, H', I', ⟨tk, rfl⟩, qv⟩⟩
def rSOwn (C : Addr) (sp : Sp) : List V → Hp → VK → Prop := fun xs H Q => ∃ a dx fs, xs = [.ref a] ∧ H a = some (.ins C dx fs) ∧ sp [.ref a] H (fun v H' => (∃ z, v = .str z) ∧ Q v H') E0
theorem call_repr_own (F : FnOk X.prog X.w X.K X.mg X.base CX0 k f fd ps sp) (hr : Room (k + 2) X.A) (hb : Binds X.K fd ps []) (hs : PySem.W.findIn X.K (.ref C) "__repr__" = some (some (.ref f)))
    (hf : PySem.W.isFn X.K (.ref f) = true) : CallR X (.builtin "repr") (rSOwn C sp) := by
  intro pins s σ H xs us Q I r q
  obtain ⟨a, dx, fs, rfl, ha, q⟩ := q
  obtain ⟨u, rfl, ru⟩ := vals1 r
  cases ru
  obtain ⟨mA, J, _⟩ := ins_get I.hok ha
  obtain ⟨od, J, _⟩ := J.look
  obtain ⟨m, hF⟩ := I.fr
  refine repr_K (show X.A.in1.units < cLine from (show Room (k + 1) X.A.in1 from hr.in1).units0) hF I.ok.mod.kin J hs hf ?_
  refine wpAny_mono (run_at (us := [.ref a]) (vs := [.ref a]) F ((show Room (k + 1) X.A.in1 from hr.in1).mono (Nat.le_succ k)) rfl hb I (.cons rfl .nil) q) (fun v s' hv => ?_) fun _ _ e => e
  obtain ⟨v0, H', I', rv, ⟨z, rfl⟩, qv⟩ := hv
  obtain ⟨tk, rfl⟩ := rv
  exact ⟨.str z, H', I', ⟨tk, rfl⟩, qv⟩
end

/-! ### == and != by an own __eq__ -/
theorem ne_slot : Slot "object" "__ne__" "object.__ne__" :=
  .of (owner := "object") (n := "__ne__") (by rw [typeLookup_type, builtinLookup_eq_fast]; kernel_rfl) (by decide +kernel) (by decide +kernel) (by decide +kernel) (.inl (by decide +kernel)) (by rw [isSubtype_type]; kernel_rfl)
section
open PySem.W PySem.Calls
variable {X : Cx} {C f : Addr} {fd : FuncData} {ps : List Str} {sp : Sp} {k : Nat}
theorem ifBound_bi {K : PySem.W.Frag} {M : Model} {A : Around} {E : Value → Shared → Prop} {s : Shared} {x : Addr} {ox : Obj} {od : Option Obj} {name : Str} {id : String} {args : List Value} {Q : Option Value → Shared → Prop} (KX : K.In s.heap) (J : InstAt s.heap x ox C od)
    (hs : findIn K (.ref C) name = some (some (.builtin id))) (hb : ∀ self, bindSpecial (.builtin id) self = pure (.builtin id, [self]))
    (h : wpAny M A (call (.builtin id) (.ref x :: args)) (fun v => Q (some v)) E s) : wpAny M A (callSpecialIfBound? (.ref x) name args) Q E s := by
  simp only [callSpecialIfBound?, bindSpecialIfBound?]
  refine wpAny_holding (wpAny_bind (wpAny_bind (wpAny_bind (J.type.here ((looks_findIn KX hs).here ?_)))))
  simp only [hb]
  refine wpAny_bind (wpAny_askSetting (wpAny_ite ?_))
  have fin : wpAny M A (call (.builtin id) ([.ref x] ++ args) >>= fun v => pure (some v)) Q E s := wpAny_bind (wpAny_mono h (fun v s' h' => wpAny_pure h') fun _ _ h' => h')
  split
  · exact wpAny_bind (wpAny_pure (wpAny_pure fin))
  · exact wpAny_tryCatch (wpAny_bind (wpAny_pure (wpAny_pure fin)))

/-- what an own == is asked: a bool comes back -/
abbrev bq (g : Bool → Bool) (Q : VK) : VK := fun v H' => ∃ b, v = .bl b ∧ Q (.bl (g b)) H'
theorem ne_run {A' : Around} {E' : Value → Shared → Prop} {pins : List (Addr × Obj)} {σ : L2.St} {H : Hp} {s : Shared} {Q : VK} {a dx : Addr} {fs : List (Str × V)} {y : V} {u : Value} (F : FnOk X.prog X.w X.K X.mg X.base CX0 k f fd ps sp) (hr : Room (k + 2) A') (hfr : A'.frames = X.A.frames) (hb : Binds X.K fd ps [])
    (hs : findIn X.K (.ref C) "__eq__" = some (some (.ref f))) (hf : isFn X.K (.ref f) = true) (hob : subIn X.K (.ref C) (.type "object") = some true)
    (I : Inv X pins σ H s) (ha : H a = some (.ins C dx fs)) (ry : RelV y u) (q : sp [.ref a, y] H (bq not Q) E0) :
    wpAny (model X.prog X.w) A' (call (.builtin "object.__ne__") [.ref a, u]) (fun v s' => v ≠ .notImplemented ∧ EP X pins σ Q v s') E' s := by
  obtain ⟨mA, J, _⟩ := ins_get I.hok ha
  obtain ⟨od, J, _⟩ := J.look
  have KX := I.kIn
  obtain ⟨m, hF⟩ := I.fr
  have sub : Looks (model X.prog X.w) s.heap (isInstance (.ref a) (.type "object")) true := J.type.andThen (looks_subIn KX hob)
  refine wpAny_call (codeAny_call_builtin ne_slot.plain PySem.F.cmpEntry_ne (W.check_slot PySem.F.cmpKind_ne PySem.F.cmpSplit_ne sub (PySem.F.cmpArgs_ne _ _) ?_))
  unfold Builtin.«object.__ne__»
  refine wpAny_bind (m := slotArgs "__ne__" 1 ⟨[.ref a, u], []⟩) ?_
  rw [show slotArgs "__ne__" 1 ⟨[.ref a, u], []⟩ = pure (.ref a, [u]) by first | rfl | kernel_rfl]
  refine wpAny_pure ?_
  refine wpAny_bind (wpAny_cRoomFor (show A'.in1.units < cLine from (show Room (k + 1) A'.in1 from hr.in1).units0) ?_)
  refine wpAny_bind (m := callSpecialIfBound? (.ref a) (Str.ofString "__eq__") [u]) (ifBound_K KX J hs hf ?_)
  refine wpAny_mono (run_at (us := [.ref a, u]) (vs := [.ref a, y]) F ((show Room (k + 1) A'.in1 from hr.in1).mono (Nat.le_succ k)) (by exact hfr) hb I (.cons rfl (.cons ry .nil)) q) (fun v s' hv => ?_) fun _ _ e => e
  obtain ⟨v0, H', I', rv, b, rfl, qv⟩ := hv
  cases rv
  refine wpAny_bind (wpAny_truthy_bool ?_)
  exact wpAny_pure ⟨(fun z => nomatch z), .bl (!b), H', I', rfl, qv⟩

/-- own == anything whose type is not below the class -/
def rEqOwn (C : Addr) (sp : Sp) : R2 := fun x y H Q => ∃ a dx fs, x = .ref a ∧ H a = some (.ins C dx fs) ∧ ((∃ b dy gs, y = .ref b ∧ H b = some (.ins C dy gs)) ∨ ∃ i, y = .int i) ∧ sp [x, y] H Q E0
theorem op_eq_own (F : FnOk X.prog X.w X.K X.mg X.base CX0 k f fd ps sp) (hr : Room k X.A) (hb : Binds X.K fd ps []) (hs : findIn X.K (.ref C) "__eq__" = some (some (.ref f))) (hf : isFn X.K (.ref f) = true)
    (hn : notFirst X.K C (.type "int") = true) : OpR X (compareOp .Eq) (rEqOwn C sp) := by
  intro pins s σ H x y v u Q I rx ry q
  obtain ⟨a, dx, fs, rfl, ha, hy, q⟩ := q
  cases rx
  obtain ⟨mA, J, _⟩ := ins_get I.hok ha
  obtain ⟨od, J, _⟩ := J.look
  obtain ⟨m, hF⟩ := I.fr
  have body := cmpback (run_fn (us := [.ref a, u]) (vs := [.ref a, y]) (Q := Q) F hr hb .nil pass0 I (.cons rfl (.cons ry .nil)) q)
  rcases hy with ⟨b, dy, gs, rfl, hb'⟩ | ⟨i, rfl⟩
  · cases ry
    obtain ⟨mB, J', _⟩ := ins_get I.hok hb'
    obtain ⟨od', J', _⟩ := J'.look
    exact PySem.W.cmp_K (op := .Eq) (tb := .ref C) hr.units0 hF I.ok.mod.kin J J'.type (by simp [PySem.W.notFirst]) hs hf body
  · obtain ⟨t, rfl⟩ := ry
    exact PySem.W.cmp_K (op := .Eq) (tb := .type "int") hr.units0 hF I.ok.mod.kin J (Looks.of_pure rfl) hn hs hf body
/-- own != own, own != int -/
def rNeOwn (C : Addr) (sp : Sp) : R2 := fun x y H Q => ∃ a dx fs, x = .ref a ∧ H a = some (.ins C dx fs) ∧ ((∃ b dy gs, y = .ref b ∧ H b = some (.ins C dy gs)) ∨ ∃ i, y = .int i) ∧ sp [x, y] H (bq not Q) E0
theorem op_ne_own (F : FnOk X.prog X.w X.K X.mg X.base CX0 k f fd ps sp) (hr : Room (k + 3) X.A) (hb : Binds X.K fd ps []) (hs : findIn X.K (.ref C) "__eq__" = some (some (.ref f))) (hf : isFn X.K (.ref f) = true)
    (hn : findIn X.K (.ref C) "__ne__" = some (some (.builtin "object.__ne__"))) (hob : subIn X.K (.ref C) (.type "object") = some true) (hi : subIn X.K (.type "int") (.ref C) = some false) : OpR X (compareOp .NotEq) (rNeOwn C sp) := by
  intro pins s σ H x y v u Q I rx ry q
  obtain ⟨a, dx, fs, rfl, ha, hy, q⟩ := q
  cases rx
  obtain ⟨mA, J, _⟩ := ins_get I.hok ha
  obtain ⟨od, J, _⟩ := J.look
  have KX := I.kIn
  have one : wpAny (model X.prog X.w) X.A (tryCompare (.ref a) (Str.ofString "__ne__") u) (fun r s' => ∃ v, r = some v ∧ EP X pins σ Q v s') X.xe s := by
    unfold tryCompare
    refine wpAny_bind (ifBound_bi KX J hn ne_slot.bind (wpAny_mono (ne_run (E' := X.xe) F (hr.mono (Nat.le_succ _)) rfl hb hs hf hob I ha ry q) (fun v s' hv => ?_) fun _ _ e => e))
    obtain ⟨h1, h2⟩ := hv
    cases v <;> first | exact (h1 rfl).elim | exact wpAny_pure ⟨_, rfl, h2⟩
  show wpAny _ _ (richCompare .NotEq (.ref a) u) _ _ _
  unfold richCompare
  simp only [oneThing_ref]
  refine wpAny_holding (wpAny_bind (wpAny_cRoomFor hr.units0 ?_))
  rcases hy with ⟨b, dy, gs, rfl, hb'⟩ | ⟨i, rfl⟩
  · cases ry
    obtain ⟨mB, J', _⟩ := ins_get I.hok hb'
    obtain ⟨od', J', _⟩ := J'.look
    refine wpAny_bind (J.type.here (wpAny_bind (J'.type.here ?_)))
    rw [if_neg (by simp)]
    refine wpAny_bind (wpAny_pure ?_)
    simp only [Bool.false_eq_true, if_false]
    refine wpAny_bind (wpAny_mono one (fun r s' z => ?_) fun _ _ e => e)
    obtain ⟨v, rfl, hq⟩ := z
    exact wpAny_pure hq
  · obtain ⟨t, rfl⟩ := ry
    refine wpAny_bind (J.type.here (wpAny_bind ((Looks.of_pure (M := model X.prog X.w) (h := s.heap) (t := typeOf (.int i t)) (r := Value.type "int") rfl).here ?_)))
    rw [if_pos (by simp)]
    refine wpAny_bind ((looks_subIn KX hi).here ?_)
    simp only [Bool.false_eq_true, if_false]
    refine wpAny_bind (wpAny_mono one (fun r s' z => ?_) fun _ _ e => e)
    obtain ⟨v, rfl, hq⟩ := z
    exact wpAny_pure hq
/-- int == own, int != own -/
theorem icmp_eq {M : Model} {A : Around} {E : Value → Shared → Prop} {s : Shared} {Q : Fin → Shared → Prop} {i : Int} {t : Tok} {y C dx : Addr} (ho : s.heap.get? y = some (PySem.W.instObj C dx)) (q : Q (.done (.ret .notImplemented)) s) :
    wpAny M A (Builtin.«int.__eq__» ⟨[.int i t, .ref y], []⟩) Q E s := by
  unfold Builtin.«int.__eq__»
  exact bin_ni ho q
theorem icmp_ne {M : Model} {A : Around} {E : Value → Shared → Prop} {s : Shared} {Q : Fin → Shared → Prop} {i : Int} {t : Tok} {y C dx : Addr} (ho : s.heap.get? y = some (PySem.W.instObj C dx)) (q : Q (.done (.ret .notImplemented)) s) :
    wpAny M A (Builtin.«int.__ne__» ⟨[.int i t, .ref y], []⟩) Q E s := by
  unfold Builtin.«int.__ne__»
  exact bin_ni ho q
theorem inst_of {H : Hp} {h : Heap} {P : Program} {w : World} {a C dx : Addr} {fs : List (Str × V)} (hok : HOk P w H h) (ha : H a = some (.ins C dx fs)) : h.get? a = some (instObj C dx) := by
  obtain ⟨_, _, _, e, _⟩ := (show ObjOk P w H h a (.ins C dx fs) from hok a _ ha)
  exact e
/-- int == own, int != own; the own method is asked with the sides exchanged -/
def rIEqOwn (C : Addr) (sp : Sp) (g : Bool → Bool) : R2 := fun x y H Q => ∃ a dx fs i, y = .ref a ∧ x = .int i ∧ H a = some (.ins C dx fs) ∧ sp [y, x] H (bq g Q) E0
theorem op_eq_Iown (F : FnOk X.prog X.w X.K X.mg X.base CX0 k f fd ps sp) (hr : Room k X.A) (hb : Binds X.K fd ps []) (hs : findIn X.K (.ref C) "__eq__" = some (some (.ref f))) (hf : isFn X.K (.ref f) = true)
    (hi : subIn X.K (.ref C) (.type "int") = some false) : OpR X (compareOp .Eq) (rIEqOwn C sp id) := by
  intro pins s σ H x y v u Q I rx ry q
  obtain ⟨a, dx, fs, i, rfl, rfl, ha, q⟩ := q
  cases ry
  obtain ⟨t, rfl⟩ := rx
  obtain ⟨mA, J, _⟩ := ins_get I.hok ha
  obtain ⟨od, J, _⟩ := J.look
  have KX := I.kIn
  have one : wpAny (model X.prog X.w) X.A (tryCompare (.int i t) (Str.ofString "__eq__") (.ref a)) (fun r s' => r = none ∧ s' = s) X.xe s :=
    wpAny_tryCompare_declines (typeIs_int _ i t) PySem.F.slot_int_eq (GQ.call_here PySem.F.slot_int_eq (typeIs_int _ i t) PySem.F.entry_int_eq (PySem.F.args_int_eq_2 _ _) (icmp_eq (inst_of I.hok ha) ⟨rfl, rfl, rfl⟩))
  have two : wpAny (model X.prog X.w) X.A (tryCompare (.ref a) (Str.ofString "__eq__") (.int i t)) (fun r s' => ∃ v, r = some v ∧ EP X pins σ Q v s') X.xe s := by
    unfold tryCompare
    refine wpAny_bind (ifBound_K KX J hs hf (wpAny_mono (run_fn (us := [.ref a, .int i t]) (vs := [.ref a, .int i]) F hr hb .nil pass0 I (.cons rfl (.cons ⟨t, rfl⟩ .nil)) q) (fun v s' hv => ?_) fun _ _ e => e))
    obtain ⟨v0, H', I', rv, b, rfl, qv⟩ := hv
    cases rv
    exact wpAny_pure ⟨_, rfl, .bl b, H', I', rfl, qv⟩
  show wpAny _ _ (richCompare .Eq (.int i t) (.ref a)) _ _ _
  unfold richCompare
  refine wpAny_holding (wpAny_bind (wpAny_cRoomFor hr.units0 ?_))
  rw [show oneThing? CmpOp.Eq (.int i t) (.ref a) = none from rfl]
  refine wpAny_bind ((Looks.of_pure (M := model X.prog X.w) (h := s.heap) (t := typeOf (.int i t)) (r := Value.type "int") rfl).here (wpAny_bind (J.type.here ?_)))
  rw [if_pos (by simp)]
  refine wpAny_bind ((looks_subIn KX hi).here ?_)
  simp only [Bool.false_eq_true, if_false, Bool.not_false, if_true]
  refine wpAny_bind (wpAny_mono one (fun r s' z => ?_) fun _ _ e => e)
  obtain ⟨rfl, rfl⟩ := z
  refine wpAny_bind (wpAny_mono two (fun r s' z => ?_) fun _ _ e => e)
  obtain ⟨v, rfl, hq⟩ := z
  exact wpAny_pure hq
theorem op_ne_Iown (F : FnOk X.prog X.w X.K X.mg X.base CX0 k f fd ps sp) (hr : Room (k + 3) X.A) (hb : Binds X.K fd ps []) (hs : findIn X.K (.ref C) "__eq__" = some (some (.ref f))) (hf : isFn X.K (.ref f) = true)
    (hn : findIn X.K (.ref C) "__ne__" = some (some (.builtin "object.__ne__"))) (hob : subIn X.K (.ref C) (.type "object") = some true) (hi : subIn X.K (.ref C) (.type "int") = some false) : OpR X (compareOp .NotEq) (rIEqOwn C sp not) := by
  intro pins s σ H x y v u Q I rx ry q
  obtain ⟨a, dx, fs, i, rfl, rfl, ha, q⟩ := q
  cases ry
  obtain ⟨t, rfl⟩ := rx
  obtain ⟨mA, J, _⟩ := ins_get I.hok ha
  obtain ⟨od, J, _⟩ := J.look
  have KX := I.kIn
  have one : wpAny (model X.prog X.w) X.A (tryCompare (.int i t) (Str.ofString "__ne__") (.ref a)) (fun r s' => r = none ∧ s' = s) X.xe s :=
    wpAny_tryCompare_declines (typeIs_int _ i t) PySem.F.slot_int_ne (GQ.call_here PySem.F.slot_int_ne (typeIs_int _ i t) PySem.F.entry_int_ne (PySem.F.args_int_ne_2 _ _) (icmp_ne (inst_of I.hok ha) ⟨rfl, rfl, rfl⟩))
  have two : wpAny (model X.prog X.w) X.A (tryCompare (.ref a) (Str.ofString "__ne__") (.int i t)) (fun r s' => ∃ v, r = some v ∧ EP X pins σ Q v s') X.xe s := by
    unfold tryCompare
    refine wpAny_bind (ifBound_bi KX J hn ne_slot.bind (wpAny_mono (ne_run (E' := X.xe) (y := .int i) F (hr.mono (Nat.le_succ _)) rfl hb hs hf hob I ha (show RelV (.int i) (.int i t) from ⟨t, rfl⟩) q) (fun v s' hv => ?_) fun _ _ e => e))
    obtain ⟨h1, h2⟩ := hv
    cases v <;> first | exact (h1 rfl).elim | exact wpAny_pure ⟨_, rfl, h2⟩
  show wpAny _ _ (richCompare .NotEq (.int i t) (.ref a)) _ _ _
  unfold richCompare
  refine wpAny_holding (wpAny_bind (wpAny_cRoomFor hr.units0 ?_))
  rw [show oneThing? CmpOp.NotEq (.int i t) (.ref a) = none from rfl]
  refine wpAny_bind ((Looks.of_pure (M := model X.prog X.w) (h := s.heap) (t := typeOf (.int i t)) (r := Value.type "int") rfl).here (wpAny_bind (J.type.here ?_)))
  rw [if_pos (by simp)]
  refine wpAny_bind ((looks_subIn KX hi).here ?_)
  simp only [Bool.false_eq_true, if_false, Bool.not_false, if_true]
  refine wpAny_bind (wpAny_mono one (fun r s' z => ?_) fun _ _ e => e)
  obtain ⟨rfl, rfl⟩ := z
  refine wpAny_bind (wpAny_mono two (fun r s' z => ?_) fun _ _ e => e)
  obtain ⟨v, rfl, hq⟩ := z
  exact wpAny_pure hq
end
end Ly
namespace Ly
open PySem PySem.Spec PyProof.Rows L2
/-! ### static methods, keywords -/
/-- C.m is a static method: its record at p, its def at g -/
structure SMet (K : PySem.W.Frag) (C : Addr) (mc : Value) (m : Str) (p g : Addr) : Prop where
  at_ : PySem.W.findCls K (.ref C) mc m = some (.get (.builtin "staticmethod.__get__") (.ref p) .none (.ref C))
  rc : ∃ rest, PySem.W.recIn K p "staticmethod" = some (.ref g :: rest)
  kp : PySem.W.keepIn K (.ref g) = true
def tSMeth (C : Addr) (sp : Sp) (dvs : List V) (ta : TE) (t : TA) : TE := fun σ H Q => ta σ H fun x H1 => x = .ref C ∧ t σ H1 fun vs H2 => sp (vs ++ dvs) H2 Q E0
def tSMethK (C : Addr) (sp : Sp) (gV : List V → List V → List V) (ta : TE) (t tk : TA) : TE := fun σ H Q => ta σ H fun x H1 => x = .ref C ∧ t σ H1 fun vs H2 => tk σ H2 fun zs H3 => sp (gV vs zs) H3 Q E0
section
variable {X : Cx} {k : Nat} {C p g : Addr} {mc : Value} {fd : FuncData} {ps ks : List Str} {sp : Sp} {o e : Expr} {es : List Expr} {kws : List Keyword} {m : Str} {pos apos : Pos} {ta : TE} {t tk : TA} {pl : Sem Bool} {dvs : List V} {ds : List Value} {gv : List Value → List Value → List Value} {gV : List V → List V → List V}
theorem getsm_ok {pins : List (Addr × Obj)} {σ : L2.St} {H : Hp} {s : Shared} {A : Around} {E : Value → Shared → Prop} {Q : Value × List Value → Shared → Prop} (I : Inv X pins σ H s) (r : ClX.CRead X.K C mc) (c : SMet X.K C mc m p g)
    (h : ∀ s', Inv X pins σ H s' → Q (.ref g, []) s') : wpAny (model X.prog X.w) A (getMethod (.ref C) m pl) Q E s := by
  obtain ⟨rest, hp⟩ := c.rc
  refine PySem.W.method_cls I.kIn r.ga (PySem.W.cls_bind I.kIn r.rd c.at_ (wpAny_call (PySem.W.sm_get (s := { s with toks := s.toks + 1 }) I.kIn hp (PySem.W.handed_on rfl ?_))))
  exact h _ (I.tok _)
theorem pe_smeth (he : PE X o ta) (r : ClX.CRead X.K C mc) (c : SMet X.K C mc m p g) (F : FnOk X.prog X.w X.K X.mg X.base CX0 k g fd ps sp) (hr : Room k X.A) (hb : Binds X.K fd ps ds) (hd : Vals dvs ds) (ha : PA X (e :: es) t)
    (hst : starEach (e :: es) X.env = (false, eval e X.env) :: starEach es X.env := by rfl) (hpl : (backTo pos (starEach es X.env)).any (·.1) = false := by rfl)
    (ht : eval (.Call (.Attribute o m apos) (e :: es) [] pos) X.env = (do
      let ov ← eval o X.env
      standAt apos.atName
      let (f, first) ← holding [ov] (getMethod ov m pl)
      callWith pos f first (backTo pos (starEach (e :: es) X.env)) (backToKw pos (keywordEach [] X.env))) := by rfl) :
    PE X (.Call (.Attribute o m apos) (e :: es) [] pos) (tSMeth C sp dvs ta t) := by
  refine ⟨fun pins s σ H Q I h => ?_⟩
  refine PySem.W.methodCall_KW (pl := pl) (thn (he.run pins s σ H _ I h) fun u s1 ⟨x, H1, I1, rx, ex, q⟩ => ?_) ht
  subst ex
  obtain rfl : u = Value.ref C := rx
  refine getsm_ok I1 r c fun s2 I2 => ?_
  refine PySem.W.callWith_K (h₀ := X.base) I.ok.mod.kin c.kp (thn (ha.run pos pins s2 σ H1 _ I2 q) fun us s3 ⟨vs, H2, I3, rv, q2⟩ => ⟨I3.kIn, ?_⟩) hst hpl
  exact run_fn F hr hb hd pass0 I3 rv q2
/-- a def run with keywords -/
theorem run_kn {n : Nat} {pins : List (Addr × Obj)} {σ : L2.St} {H : Hp} {s : Shared} {Q : VK} {us ws : List Value} {vs zs : List V} (F : FnOk X.prog X.w X.K X.mg X.base CX0 k g fd ps sp) (hr : Room k X.A) (hb : KBn X.K fd ps n ks gv gV) (I : Inv X pins σ H s)
    (r : Vals vs us) (rz : Vals zs ws) (l1 : vs.length = n) (l2 : zs.length = ks.length) (h : sp (gV vs zs) H Q E0) : wpAny (model X.prog X.w) X.A (call (.ref g) us (ks.zip ws)) (EP X pins σ Q) X.xe s := by
  refine wpAny_call (codeAny_mono (F.run X.A X.stack s H ⟨us, ks.zip ws⟩ (gv us ws) (gV vs zs) Q E0 hr I.env0 (hb.to s us ws I.kIn (r.length.symm.trans l1) (rz.length.symm.trans l2)) (hb.rel r rz) h) fun r s' hq => ?_)
  cases r with
  | error e => exact False.elim hq
  | ok fl =>
    cases fl with
    | ret u => exact I.after hq
    | next => exact False.elim hq
    | brk => exact False.elim hq
    | cont => exact False.elim hq
/-- C.m(k = v, ..), a static method -/
def tSMethK0 (C : Addr) (m : Nat) (sp : Sp) (gV : List V → List V → List V) (ta : TE) (tk : TA) : TE := fun σ H Q => ta σ H fun x H1 => x = .ref C ∧ tk σ H1 fun zs H2 => zs.length = m ∧ sp (gV [] zs) H2 Q E0
theorem pe_smethK0 (he : PE X o ta) (r : ClX.CRead X.K C mc) (c : SMet X.K C mc m p g) (F : FnOk X.prog X.w X.K X.mg X.base CX0 k g fd ps sp) (hr : Room k X.A) (hb : KBn X.K fd ps 0 ks gv gV) (hkw : PK X kws tk)
    (hall : (backToKw pos (keywordEach kws X.env)).all (·.1.isSome) = true := by rfl) (hks : (backToKw pos (keywordEach kws X.env)).filterMap (·.1) = ks := by rfl)
    (hpl : ((backTo pos (starEach [] X.env)).any (·.1) || (backToKw pos (keywordEach kws X.env)).any (·.1.isNone)) = false := by rfl)
    (ht : eval (.Call (.Attribute o m apos) [] kws pos) X.env = (do
      let ov ← eval o X.env
      standAt apos.atName
      let (f, first) ← holding [ov] (getMethod ov m pl)
      callWith pos f first (backTo pos (starEach [] X.env)) (backToKw pos (keywordEach kws X.env))) := by rfl) :
    PE X (.Call (.Attribute o m apos) [] kws pos) (tSMethK0 C ks.length sp gV ta tk) := by
  refine ⟨fun pins s σ H Q I h => ?_⟩
  refine PySem.W.methodCall_KW (pl := pl) (thn (he.run pins s σ H _ I h) fun u s1 ⟨x, H1, I1, rx, ex, q⟩ => ?_) ht
  subst ex
  obtain rfl : u = Value.ref C := rx
  refine getsm_ok I1 r c fun s2 I2 => ?_
  refine PySem.W.callWith_KW0 (h₀ := X.base) I.ok.mod.kin c.kp hall ?_ hpl
  refine thn (hkw.run pos pins s2 σ H1 _ I2 q) fun ws s3 ⟨zs, H2, I3, rz, l2, q2⟩ => ⟨I3.kIn, ?_⟩
  rw [hks]
  exact run_kn (us := []) (vs := []) F hr hb I3 .nil rz rfl l2 q2
/-- o.m(k = v, ..) of an instance -/
def tMethK0 (C : Addr) (m : Str) (n : Nat) (sp : Sp) (gV : List V → List V → List V) (ta : TE) (tk : TA) : TE := fun σ H Q => ta σ H fun x H1 => ∃ a dx fs, x = .ref a ∧ H1 a = some (.ins C dx fs) ∧ fs.lookup m = none ∧ tk σ H1 fun zs H2 => zs.length = n ∧ sp (gV [x] zs) H2 Q E0
theorem pe_methK0 (he : PE X o ta) (c : Cls X.K C) (hm : Meth X.K C m g) (F : FnOk X.prog X.w X.K X.mg X.base CX0 k g fd ps sp) (hr : Room k X.A) (hb : KBn X.K fd ps 1 ks gv gV) (hkw : PK X kws tk)
    (hall : (backToKw pos (keywordEach kws X.env)).all (·.1.isSome) = true := by rfl) (hks : (backToKw pos (keywordEach kws X.env)).filterMap (·.1) = ks := by rfl)
    (hpl : ((backTo pos (starEach [] X.env)).any (·.1) || (backToKw pos (keywordEach kws X.env)).any (·.1.isNone)) = false := by rfl)
    (ht : eval (.Call (.Attribute o m apos) [] kws pos) X.env = (do
      let ov ← eval o X.env
      standAt apos.atName
      let (f, first) ← holding [ov] (getMethod ov m pl)
      callWith pos f first (backTo pos (starEach [] X.env)) (backToKw pos (keywordEach kws X.env))) := by rfl) :
    PE X (.Call (.Attribute o m apos) [] kws pos) (tMethK0 C m ks.length sp gV ta tk) := by
  refine ⟨fun pins s σ H Q I h => ?_⟩
  refine PySem.W.methodCall_KW (pl := pl) (thn (he.run pins s σ H _ I h) fun u s1 ⟨x, H1, I1, rx, a, dx, fs, ex, ea, l, q⟩ => ?_) ht
  subst ex
  obtain rfl : u = Value.ref a := rx
  refine getmeth_ok I1 ea c hm l ?_
  refine PySem.W.callWith_KW0 (first := [.ref a]) (h₀ := X.base) I.ok.mod.kin hm.kp hall ?_ hpl
  refine thn (hkw.run pos pins s1 σ H1 _ I1 q) fun ws s3 ⟨zs, H2, I3, rz, l2, q2⟩ => ⟨I3.kIn, ?_⟩
  rw [hks]
  exact run_kn (us := [.ref a]) (vs := [.ref a]) F hr hb I3 (.cons rfl .nil) rz rfl l2 q2
end
/-- how keywords bind where a def has no defaults -/
theorem kbn_of {K : PySem.W.Frag} {x qual : Str} {st : Stmt} {f : Addr} {fd : FuncData} {ps ks : List Str} {n : Nat} (F : L2.Fun K x qual st f fd)
    (h : ∀ (kV doc pm : Value) (an : Option Addr) (cdv ct : Value) (us ws : List Value), us.length = n → ws.length = ks.length →
      bindArgs (PySem.W.fnOf x qual (defArgs st) (defBody st) (defScope st) .none kV doc pm an cdv ct) ⟨us, ks.zip ws⟩ = pure (ps.zip (us ++ ws))) : KBn K fd ps n ks (· ++ ·) (· ++ ·) := by
  obtain ⟨oc, od, kV, doc, pm, an, cdv, ct, osl, rfl, lk, hcd⟩ := F.ex
  exact ⟨fun s us ws _ l1 l2 => .of_eq (h kV doc pm an cdv ct us ws l1 l2), fun r1 r2 => r1.append r2⟩
/-- .. and where it has, but all are given: g puts them in the parameters' order -/
theorem kbn_ofD {K : PySem.W.Frag} {x qual : Str} {st : Stmt} {f : Addr} {fd : FuncData} {ps ks : List Str} {n : Nat} {dvs : List V} {g : {α : Type} → List α → List α → List α} (F : FunD K x qual (defArgs st) (defBody st) (defScope st) dvs [] f fd) (hd : dvs ≠ [])
    (hrel : ∀ {vs zs : List V} {us ws : List Value}, Vals vs us → Vals zs ws → Vals (g vs zs) (g us ws))
    (h : ∀ (T : Addr) (kV doc pm : Value) (an : Option Addr) (cdv ct : Value) (us ws its : List Value), us.length = n → ws.length = ks.length → its.length = dvs.length →
      ∃ k, bindArgs (PySem.W.fnOf x qual (defArgs st) (defBody st) (defScope st) (.ref T) kV doc pm an cdv ct) ⟨us, ks.zip ws⟩ = seqItems? (.ref T) >>= k ∧ k (some its.toArray) = pure (ps.zip (g us ws))) : KBn K fd ps n ks g g := by
  obtain ⟨oc, od, dV, kV, doc, pm, an, cdv, ct, osl, rfl, lk, hcd, hD, hK⟩ := F.ex
  rcases hD with ⟨e, _⟩ | ⟨_, T, o, its, m, rfl, lT, oT, rT⟩
  · exact absurd e hd
  · refine ⟨fun s us ws X l1 l2 => ?_, fun r1 r2 => hrel r1 r2⟩
    obtain ⟨k, e1, e2⟩ := h T kV doc pm an cdv ct us ws its l1 l2 rT.length.symm
    refine BindsTo.of_looks fun M => ?_
    rw [e1]
    exact looks_items X lT oT (.of_pure e2)
end Ly

namespace Ly
open PySem PySem.Spec PyProof.Rows L2
/-! ### in place, where the class has no method for it -/
section
open PySem.W
variable {X : Cx} {C f : Addr} {fd : FuncData} {ps : List Str} {sp : Sp} {k : Nat} {op : Operator}
theorem fills_in {K : PySem.W.Frag} {M : Model} {h : Heap} {C : Addr} {nm : String} {add : Bool} {cd : ClassData} (KX : K.In h) (hcd : clsIn K C = some cd) (hm : cd.mro = [.ref C, .type "object"]) (h1 : findIn K (.ref C) (dunderI nm) = some none) (h2 : findIn K (.type "object") (dunderI nm) = some none) :
    Looks M h (fillsInplaceSlot (.ref C) nm add) false := by
  intro A Q E s k q
  have Lm : Looks M h (mroOf (.ref C)) cd.mro := (looks_clsIn KX hcd).andThen (f := fun cd => pure cd.mro) .now
  have Lm' := Lm.keeps k
  obtain ⟨hh, g, d, tt, os⟩ := s
  have KX' : K.In hh := KX.keeps k
  have L1 : Looks M hh (typeLookup (.ref C) (dunderI nm)) none := looks_findIn KX' h1
  have L2 : Looks M hh (typeLookup (.type "object") (dunderI nm)) none := looks_findIn KX' h2
  unfold fillsInplaceSlot
  refine wpAny_bind (Lm'.at ?_)
  rw [hm, List.anyM_cons]
  repeat lk
  exact q
/-- the class's mro is itself and object -/
def mro2 (K : PySem.W.Frag) (C : Addr) : Bool := (clsIn K C).any fun cd => cd.mro == [.ref C, .type "object"]
theorem mro2_of {K : PySem.W.Frag} {C : Addr} (h : mro2 K C = true) : ∃ cd, clsIn K C = some cd ∧ cd.mro = [.ref C, .type "object"] := by
  obtain ⟨cd, h1, h2⟩ := any_some h
  exact ⟨cd, h1, by simpa using h2⟩
theorem bin1_own2 {pins : List (Addr × Obj)} {σ : L2.St} {H : Hp} {s : Shared} {Q : VK} {nm : String} {a b dx dy : Addr} {fs gs : List (Str × V)} (F : FnOk X.prog X.w X.K X.mg X.base CX0 k f fd ps sp) (hr : Room k X.A) (hb : Binds X.K fd ps []) (hs : findIn X.K (.ref C) (PySem.dunder nm) = some (some (.ref f)))
    (hf : isFn X.K (.ref f) = true) (hc : selfFirst X.K C = true) (I : Inv X pins σ H s) (ha : H a = some (.ins C dx fs)) (hb' : H b = some (.ins C dy gs)) (q : sp [.ref a, .ref b] H Q E0) :
    wpAny (model X.prog X.w) X.A (binaryOp1 nm (.ref a) (.ref b)) (fun r s' => ∃ v, r = some v ∧ EP X pins σ Q v s') X.xe s := by
  obtain ⟨mA, J, _⟩ := ins_get I.hok ha
  obtain ⟨mB, J', _⟩ := ins_get I.hok hb'
  obtain ⟨od, J, _⟩ := J.look
  obtain ⟨od', J', _⟩ := J'.look
  have KX := I.kIn
  obtain ⟨cd, rest, hcd, hm⟩ := ksp_first hc
  have one := ksp_try (E := X.xe) (M := model X.prog X.w) KX J hs hf (cmpback (run_fn (us := [.ref a, .ref b]) (vs := [.ref a, .ref b]) F hr hb .nil pass0 I (.cons rfl (.cons rfl .nil)) q))
  obtain ⟨hh, gg, d, tt, os⟩ := s
  have L1 : Looks (model X.prog X.w) hh (typeOf (.ref a)) (.ref C) := J.type
  have L2 : Looks (model X.prog X.w) hh (typeOf (.ref b)) (.ref C) := J'.type
  have L3 : Looks (model X.prog X.w) hh (fillsNumberSlot (.ref C) nm) true := fills_K KX hcd hm hs
  unfold binaryOp1
  refine wpAny_bind (L1.at ?_)
  refine wpAny_bind (L2.at ?_)
  refine wpAny_bind (L3.at ?_)
  simp only [beq_self_eq_true, if_true]
  ksp_lk
  refine wpAny_mono one (fun r s' hr' => ?_) fun _ _ e => e
  obtain ⟨v, rfl, hq⟩ := hr'
  ksp_lk
  exact ⟨v, rfl, hq⟩
theorem bin1_ownI {fo ro rc : Option Value} {pins : List (Addr × Obj)} {σ : L2.St} {H : Hp} {s : Shared} {Q : VK} {nm : String} {a dx : Addr} {i : Int} {t : Tok} {fs : List (Str × V)} (F : FnOk X.prog X.w X.K X.mg X.base CX0 k f fd ps sp) (hr : Room k X.A) (hb : Binds X.K fd ps [])
    (hs : findIn X.K (.ref C) (PySem.dunder nm) = some (some (.ref f))) (hf : isFn X.K (.ref f) = true) (hc : selfFirst X.K C = true) (hrc : findIn X.K (.ref C) (dunderR nm) = some rc) (hp : rc = none ∨ ∃ g : Addr, rc = some (.ref g))
    (h1 : findIn X.K (.type "int") (PySem.dunder nm) = some fo) (h2 : findIn X.K (.type "int") (dunderR nm) = some ro) (h12 : ((fo.isSome && !isSeqSlot fo) || (ro.isSome && !isSeqSlot ro)) = true) (hsub : subIn X.K (.type "int") (.ref C) = some false)
    (I : Inv X pins σ H s) (ha : H a = some (.ins C dx fs)) (q : sp [.ref a, .int i] H Q E0) :
    wpAny (model X.prog X.w) X.A (binaryOp1 nm (.ref a) (.int i t)) (fun r s' => ∃ v, r = some v ∧ EP X pins σ Q v s') X.xe s := by
  obtain ⟨mA, J, _⟩ := ins_get I.hok ha
  obtain ⟨od, J, _⟩ := J.look
  have KX := I.kIn
  obtain ⟨cd, rest, hcd, hm⟩ := ksp_first hc
  have one := ksp_try (E := X.xe) (M := model X.prog X.w) KX J hs hf (cmpback (run_fn (us := [.ref a, .int i t]) (vs := [.ref a, .int i]) F hr hb .nil pass0 I (.cons rfl (.cons ⟨t, rfl⟩ .nil)) q))
  obtain ⟨hh, gg, d, tt, os⟩ := s
  have L1 : Looks (model X.prog X.w) hh (typeOf (.ref a)) (.ref C) := J.type
  have L2 : Looks (model X.prog X.w) hh (typeOf (.int i t)) (.type "int") := Looks.of_pure rfl
  have L3 : Looks (model X.prog X.w) hh (fillsNumberSlot (.ref C) nm) true := fills_K KX hcd hm hs
  have L4 : Looks (model X.prog X.w) hh (fillsNumberSlot (.type "int") nm) true := by
    have z := ksp_fillsT (M := model X.prog X.w) KX h1 h2
    rw [h12] at z
    exact z
  have L5 : Looks (model X.prog X.w) hh (isSubtype (.type "int") (.ref C)) false := looks_subIn KX hsub
  have L6 : Looks (model X.prog X.w) hh (numberSlotInPython (.ref C) nm) true := ksp_inPy KX hs hrc hp
  have L7 : Looks (model X.prog X.w) hh (numberSlotInPython (.type "int") nm) false := Looks.of_pure rfl
  have L8 : Looks (model X.prog X.w) hh (typeLookup (.type "int") (dunderR nm)) ro := looks_findIn KX h2
  have hne : (Value.ref C == Value.type "int") = false := Bool.eq_false_iff.mpr fun q => by cases beq_iff_eq.mp q
  unfold binaryOp1
  refine wpAny_bind (L1.at ?_)
  refine wpAny_bind (L2.at ?_)
  refine wpAny_bind (L3.at ?_)
  simp only [hne, Bool.false_eq_true, if_false]
  ksp_lk
  refine wpAny_mono one (fun r s' hr' => ?_) fun _ _ e => e
  obtain ⟨v, rfl, hq⟩ := hr'
  ksp_lk
  exact ⟨v, rfl, hq⟩
theorem in_of {pins : List (Addr × Obj)} {σ : L2.St} {H : Hp} {s : Shared} {Q : VK} {a dx : Addr} {fs : List (Str × V)} {u : Value} (I : Inv X pins σ H s) (ha : H a = some (.ins C dx fs)) (h2 : mro2 X.K C = true) (hi : findIn X.K (.ref C) (dunderI op.info.2) = some none) (ho : findIn X.K (.type "object") (dunderI op.info.2) = some none)
    (h : wpAny (model X.prog X.w) X.A (binaryOp1 op.info.2 (.ref a) u) (fun r s' => ∃ v, r = some v ∧ EP X pins σ Q v s') X.xe s) : wpAny (model X.prog X.w) X.A (inplaceOp op (.ref a) u) (EP X pins σ Q) X.xe s := by
  obtain ⟨mA, J, _⟩ := ins_get I.hok ha
  obtain ⟨od, J, _⟩ := J.look
  obtain ⟨cd, hcd, hm⟩ := mro2_of h2
  unfold inplaceOp
  refine wpAny_holding ?_
  refine wpAny_bind (J.type.here ?_)
  refine wpAny_bind ((fills_in I.kIn hcd hm hi ho).here ?_)
  rw [if_neg Bool.false_ne_true]
  refine wpAny_bind (wpAny_mono h (fun r s' z => ?_) fun _ _ e => e)
  obtain ⟨v, rfl, q⟩ := z
  exact wpAny_pure q
end
end Ly

namespace Ly
open PySem PySem.Spec PyProof.Rows L2
/-! ### packages -/
structure GM (K : PySem.W.Frag) (C : Addr) (m qual : Str) (st : Stmt) : Prop where
  ex : ∃ (f : Addr) (fd : FuncData), L2.Fun K m qual st f fd ∧ Meth K C m f
structure GS (K : PySem.W.Frag) (C : Addr) (m qual : Str) (st : Stmt) : Prop where
  ex : ∃ (p g : Addr) (fd : FuncData) (mc : Value), L2.Fun K m qual st g fd ∧ SMet K C mc m p g ∧ ClX.CRead K C mc
structure GP (K : PySem.W.Frag) (C : Addr) (m qual : Str) (st : Stmt) : Prop where
  ex : ∃ (p g : Addr) (fd : FuncData), L2.Fun K m qual st g fd ∧ PropOf K C m p g
structure GI (K : PySem.W.Frag) (C : Addr) (qual : Str) (st : Stmt) (dvs : List V) : Prop where
  ex : ∃ (f : Addr) (fd : FuncData), FunD K "__init__" qual (defArgs st) (defBody st) (defScope st) dvs [] f fd ∧ Mk K C f
structure OwnC (K : PySem.W.Frag) (mg : Str → Option Value) (x : Str) (C : Addr) : Prop where
  mg : mg x = some (.ref C)
  cls : Cls K C
  kp : PySem.W.keepIn K (.ref C) = true
  sf : PySem.W.selfFirst K C = true
  m2 : mro2 K C = true
  sI : PySem.W.subIn K (.type "int") (.ref C) = some false
  sI' : PySem.W.subIn K (.ref C) (.type "int") = some false
  sO : PySem.W.subIn K (.ref C) (.type "object") = some true
  nI : PySem.W.notFirst K C (.type "int") = true
  kO : PySem.W.kitOne K (.ref C) (.ref C) = some true
  kI : PySem.W.kitOne K (.type "int") (.ref C) = some false
  cl : PySem.W.findIn K (.ref C) "__class__" = some (some (.builtin "object.__class__"))
  mo : PySem.W.mroIn K C (.type "object") = some true
structure Mt (W : Wd) (k : Nat) (C : Addr) (m : Str) (sp : Sp) : Prop where
  ex : ∃ (f : Addr) (fd : FuncData) (ps : List Str), Meth W.K C m f ∧ FnOk W.P W.w W.K W.mg W.base CX0 k f fd ps sp ∧ Binds W.K fd ps []
structure MtK (W : Wd) (k : Nat) (C : Addr) (m : Str) (n : Nat) (ks : List Str) (sp : Sp) : Prop where
  ex : ∃ (f : Addr) (fd : FuncData) (ps : List Str), Meth W.K C m f ∧ FnOk W.P W.w W.K W.mg W.base CX0 k f fd ps sp ∧ KBn W.K fd ps n ks (· ++ ·) (· ++ ·)
structure Sm (W : Wd) (k : Nat) (C : Addr) (m : Str) (sp : Sp) : Prop where
  ex : ∃ (p g : Addr) (fd : FuncData) (ps : List Str) (mc : Value), ClX.CRead W.K C mc ∧ SMet W.K C mc m p g ∧ FnOk W.P W.w W.K W.mg W.base CX0 k g fd ps sp ∧ Binds W.K fd ps []
structure SmK (W : Wd) (k : Nat) (C : Addr) (m : Str) (ks : List Str) (sp : Sp) : Prop where
  ex : ∃ (p g : Addr) (fd : FuncData) (ps : List Str) (mc : Value), ClX.CRead W.K C mc ∧ SMet W.K C mc m p g ∧ FnOk W.P W.w W.K W.mg W.base CX0 k g fd ps sp ∧ KBn W.K fd ps 0 ks (· ++ ·) (· ++ ·)
structure Pp (W : Wd) (k : Nat) (C : Addr) (m : Str) (sp : Sp) : Prop where
  ex : ∃ (p g : Addr) (fd : FuncData) (ps : List Str), PropOf W.K C m p g ∧ FnOk W.P W.w W.K W.mg W.base CX0 k g fd ps sp ∧ Binds W.K fd ps []
/-- a class whose instances are made by position, dvs the defaults that fill up -/
structure Mak (W : Wd) (k : Nat) (x : Str) (C : Addr) (sp : Sp) (dvs : List V) : Prop where
  ex : ∃ (f : Addr) (fd : FuncData) (ps : List Str) (ds : List Value), Mk W.K C f ∧ FnOk W.P W.w W.K W.mg W.base CX0 k f fd ps sp ∧ W.mg x = some (.ref C) ∧ Binds W.K fd ps ds ∧ Vals dvs ds

/-- a body as cl_of and its kin want it -/
def BodyOk (W : Wd) (k : Nat) (N : List Str) (qual : Str) (st : Stmt) (sp : Sp) : Prop :=
  ∀ (f : Addr) (cdv : Value) (A : Around) (outer : List Env) (s : Shared) (H : Hp) (vs : List V) (Q : VK) (E : XK), Room k (A.deeper (envOfC qual (defScope st) s.heap.objs.size f cdv)) → sp vs H Q E →
      ∃ t, PSs (cxOf CX0 W.P W.w W.K W.mg W.base N qual (defScope st) f cdv A outer s H E).nox (defBody st) t ∧ t { nx := fun _ H' => Q .non H', rt := Q } (start N vs) H
def BindOk (m qual : Str) (st : Stmt) (ps : List Str) : Prop :=
  ∀ (kV doc pm : Value) (an : Option Addr) (cdv ct : Value) (us : List Value), us.length = ps.length → bindArgs (PySem.W.fnOf m qual (defArgs st) (defBody st) (defScope st) .none kV doc pm an cdv ct) ⟨us, []⟩ = pure (ps.zip us)
def KBindOk (m qual : Str) (st : Stmt) (ps : List Str) (n : Nat) (ks : List Str) : Prop :=
  ∀ (kV doc pm : Value) (an : Option Addr) (cdv ct : Value) (us ws : List Value), us.length = n → ws.length = ks.length → bindArgs (PySem.W.fnOf m qual (defArgs st) (defBody st) (defScope st) .none kV doc pm an cdv ct) ⟨us, ks.zip ws⟩ = pure (ps.zip (us ++ ws))
section
variable {W : Wd} {k : Nat} {C : Addr} {m qual : Str} {st : Stmt} {N ps ks : List Str} {n : Nat} {sp : Sp}
theorem cl_of' {x : Str} (g : GF W.K W.mg x st) (S : FnScope N ps (defScope st)) (hb : BindOk x x st ps) (len : ∀ vs H Q E, sp vs H Q E → vs.length = ps.length) (hbody : BodyOk W k N x st sp) : Cl W (k + 1) x sp := cl_of g S hb len hbody
theorem mt_of (g : GM W.K C m qual st) (S : FnScope N ps (defScope st)) (hb : BindOk m qual st ps) (len : ∀ vs H Q E, sp vs H Q E → vs.length = ps.length) (hbody : BodyOk W k N qual st sp) : Mt W (k + 1) C m sp := by
  obtain ⟨f, fd, F, hm⟩ := g.ex
  exact ⟨f, fd, ps, hm, F.ok S len (fun cdv A outer s H vs Q E => hbody f cdv A outer s H vs Q E), F.binds hb⟩
theorem mtk_of (g : GM W.K C m qual st) (S : FnScope N ps (defScope st)) (hb : KBindOk m qual st ps n ks) (len : ∀ vs H Q E, sp vs H Q E → vs.length = ps.length) (hbody : BodyOk W k N qual st sp) : MtK W (k + 1) C m n ks sp := by
  obtain ⟨f, fd, F, hm⟩ := g.ex
  exact ⟨f, fd, ps, hm, F.ok S len (fun cdv A outer s H vs Q E => hbody f cdv A outer s H vs Q E), kbn_of F hb⟩
theorem sm_of (g : GS W.K C m qual st) (S : FnScope N ps (defScope st)) (hb : BindOk m qual st ps) (len : ∀ vs H Q E, sp vs H Q E → vs.length = ps.length) (hbody : BodyOk W k N qual st sp) : Sm W (k + 1) C m sp := by
  obtain ⟨p, f, fd, mc, F, hm, hr⟩ := g.ex
  exact ⟨p, f, fd, ps, mc, hr, hm, F.ok S len (fun cdv A outer s H vs Q E => hbody f cdv A outer s H vs Q E), F.binds hb⟩
theorem smk_of (g : GS W.K C m qual st) (S : FnScope N ps (defScope st)) (hb : KBindOk m qual st ps 0 ks) (len : ∀ vs H Q E, sp vs H Q E → vs.length = ps.length) (hbody : BodyOk W k N qual st sp) : SmK W (k + 1) C m ks sp := by
  obtain ⟨p, f, fd, mc, F, hm, hr⟩ := g.ex
  exact ⟨p, f, fd, ps, mc, hr, hm, F.ok S len (fun cdv A outer s H vs Q E => hbody f cdv A outer s H vs Q E), kbn_of F hb⟩
theorem pp_of (g : GP W.K C m qual st) (S : FnScope N ps (defScope st)) (hb : BindOk m qual st ps) (len : ∀ vs H Q E, sp vs H Q E → vs.length = ps.length) (hbody : BodyOk W k N qual st sp) : Pp W (k + 1) C m sp := by
  obtain ⟨p, f, fd, F, hm⟩ := g.ex
  exact ⟨p, f, fd, ps, hm, F.ok S len (fun cdv A outer s H vs Q E => hbody f cdv A outer s H vs Q E), F.binds hb⟩
end
section
variable {X : Cx} {k j : Nat} {C : Addr} {x m : Str} {sp : Sp} {p pos apos : Pos} {o e : Expr} {es : List Expr} {kws : List Keyword} {ta : TE} {t tk : TA} {dvs : List V} {pl : Sem Bool} {ks : List Str}
theorem pe_mt (c : Cls X.K C) (h : Mt ⟨X.prog, X.w, X.K, X.mg, X.base⟩ k C m sp) (hr : Room j X.A) (hk : k ≤ j) (he : PE X o ta) (ha : PA X (e :: es) t)
    (hst : starEach (e :: es) X.env = (false, eval e X.env) :: starEach es X.env := by rfl) (hpl : (backTo pos (starEach es X.env)).any (·.1) = false := by rfl)
    (ht : eval (.Call (.Attribute o m apos) (e :: es) [] pos) X.env = (do
      let ov ← eval o X.env
      standAt apos.atName
      let (f, first) ← holding [ov] (getMethod ov m pl)
      callWith pos f first (backTo pos (starEach (e :: es) X.env)) (backToKw pos (keywordEach [] X.env))) := by rfl) :
    PE X (.Call (.Attribute o m apos) (e :: es) [] pos) (tMeth C m sp [] E0 ta t) := by
  obtain ⟨f, fd, ps, hm, F, b⟩ := h.ex
  exact pe_meth (pl := pl) he c hm F (hr.mono hk) b .nil pass0 ha hst hpl ht
theorem pe_mt0 (c : Cls X.K C) (h : Mt ⟨X.prog, X.w, X.K, X.mg, X.base⟩ k C m sp) (hr : Room j X.A) (hk : k ≤ j) (he : PE X o ta)
    (ht : eval (.Call (.Attribute o m apos) [] [] pos) X.env = (do
      let ov ← eval o X.env
      standAt apos.atName
      let (f, first) ← holding [ov] (getMethod ov m pl)
      callWith pos f first (backTo pos (starEach [] X.env)) (backToKw pos (keywordEach [] X.env))) := by rfl) :
    PE X (.Call (.Attribute o m apos) [] [] pos) (tMeth C m sp [] E0 ta tNil) := by
  obtain ⟨f, fd, ps, hm, F, b⟩ := h.ex
  exact pe_meth0 (pl := pl) he c hm F (hr.mono hk) b .nil pass0 ht
theorem pe_mtk (c : Cls X.K C) (h : MtK ⟨X.prog, X.w, X.K, X.mg, X.base⟩ k C m 1 ks sp) (hr : Room j X.A) (hk : k ≤ j) (he : PE X o ta) (hkw : PK X kws tk)
    (hall : (backToKw pos (keywordEach kws X.env)).all (·.1.isSome) = true := by rfl) (hks : (backToKw pos (keywordEach kws X.env)).filterMap (·.1) = ks := by rfl)
    (hpl : ((backTo pos (starEach [] X.env)).any (·.1) || (backToKw pos (keywordEach kws X.env)).any (·.1.isNone)) = false := by rfl)
    (ht : eval (.Call (.Attribute o m apos) [] kws pos) X.env = (do
      let ov ← eval o X.env
      standAt apos.atName
      let (f, first) ← holding [ov] (getMethod ov m pl)
      callWith pos f first (backTo pos (starEach [] X.env)) (backToKw pos (keywordEach kws X.env))) := by rfl) :
    PE X (.Call (.Attribute o m apos) [] kws pos) (tMethK0 C m ks.length sp (· ++ ·) ta tk) := by
  obtain ⟨f, fd, ps, hm, F, b⟩ := h.ex
  exact pe_methK0 (pl := pl) he c hm F (hr.mono hk) b hkw hall hks hpl ht
theorem pe_sm (h : Sm ⟨X.prog, X.w, X.K, X.mg, X.base⟩ k C m sp) (hr : Room j X.A) (hk : k ≤ j) (he : PE X o ta) (ha : PA X (e :: es) t)
    (hst : starEach (e :: es) X.env = (false, eval e X.env) :: starEach es X.env := by rfl) (hpl : (backTo pos (starEach es X.env)).any (·.1) = false := by rfl)
    (ht : eval (.Call (.Attribute o m apos) (e :: es) [] pos) X.env = (do
      let ov ← eval o X.env
      standAt apos.atName
      let (f, first) ← holding [ov] (getMethod ov m pl)
      callWith pos f first (backTo pos (starEach (e :: es) X.env)) (backToKw pos (keywordEach [] X.env))) := by rfl) :
    PE X (.Call (.Attribute o m apos) (e :: es) [] pos) (tSMeth C sp [] ta t) := by
  obtain ⟨p, g, fd, ps, mc, r, c, F, b⟩ := h.ex
  exact pe_smeth (pl := pl) he r c F (hr.mono hk) b .nil ha hst hpl ht
theorem pe_smk (h : SmK ⟨X.prog, X.w, X.K, X.mg, X.base⟩ k C m ks sp) (hr : Room j X.A) (hk : k ≤ j) (he : PE X o ta) (hkw : PK X kws tk)
    (hall : (backToKw pos (keywordEach kws X.env)).all (·.1.isSome) = true := by rfl) (hks : (backToKw pos (keywordEach kws X.env)).filterMap (·.1) = ks := by rfl)
    (hpl : ((backTo pos (starEach [] X.env)).any (·.1) || (backToKw pos (keywordEach kws X.env)).any (·.1.isNone)) = false := by rfl)
    (ht : eval (.Call (.Attribute o m apos) [] kws pos) X.env = (do
      let ov ← eval o X.env
      standAt apos.atName
      let (f, first) ← holding [ov] (getMethod ov m pl)
      callWith pos f first (backTo pos (starEach [] X.env)) (backToKw pos (keywordEach kws X.env))) := by rfl) :
    PE X (.Call (.Attribute o m apos) [] kws pos) (tSMethK0 C ks.length sp (· ++ ·) ta tk) := by
  obtain ⟨p, g, fd, ps, mc, r, c, F, b⟩ := h.ex
  exact pe_smethK0 (pl := pl) he r c F (hr.mono hk) b hkw hall hks hpl ht
theorem pe_pp (c : Cls X.K C) (h : Pp ⟨X.prog, X.w, X.K, X.mg, X.base⟩ k C m sp) (hr : Room j X.A) (hk : k + 1 ≤ j) (he : PE X e ta) (hab : attributeBase e m X.env (eval e X.env) = eval e X.env) : PE X (.Attribute e m pos) (tProp C sp [] E0 ta) := by
  obtain ⟨p, g, fd, ps, hp, F, b⟩ := h.ex
  exact pe_prop he c hp F (hr.mono hk) b .nil pass0 hab
theorem pe_mak (h : Mak ⟨X.prog, X.w, X.K, X.mg, X.base⟩ k x C sp dvs) (hr : Room j X.A) (hk : k + 1 ≤ j) (hg : Gl X x) (ha : PA X (e :: es) t)
    (hdb : (x == ("__debug__" : Str)) = false := by decide) (he : starEach (e :: es) X.env = (false, eval e X.env) :: starEach es X.env := by rfl) (hpl : (backTo pos (starEach es X.env)).any (·.1) = false := by rfl) :
    PE X (.Call (.Name x p) (e :: es) [] pos) (tMake C sp dvs E0 t) := by
  obtain ⟨f, fd, ps, ds, M, F, hm, b, d⟩ := h.ex
  exact pe_make M F (hr.mono hk) hg hm b d pass0 ha hdb he hpl
/-- a class's or another constant's name -/
theorem pe_gn {v : V} {u : Value} (hg : Gl X x) (hm : X.mg x = some u) (r : RelV v u) (hd : (x == ("__debug__" : Str)) = false := by decide) : PE X (.Name x pos) (tC v) := pe_glob hg hm r hd
end
end Ly

namespace Ly
open PySem PySem.Spec PyProof.Rows L2
/-! ### what the top has written -/
section
variable {K : PySem.W.Frag} {h : Heap} {mg : Str → Option Value} {f g p C : Addr} {oc kV doc pm cdv ct dV : Value} {od an : Option Addr} {osl : Array (Option Value)} {x m qual : Str} {st : Stmt}
theorem gf_mk (X : K.In h) (G : h.Ns mainGlobals mg) (a : PySem.W.nsIn K mainGlobals x = some (some (.ref f)))
    (l : K.lookup f = some ⟨oc, od, .func (PySem.W.fnOf x x (defArgs st) (defBody st) (defScope st) .none kV doc pm an cdv ct), osl⟩) (c : PySem.W.codeIn K cdv x = true) (k : PySem.W.keepIn K (.ref f) = true) : GF K mg x st :=
  ⟨f, _, fun_mk l c k, PySem.W.mg_of X G a⟩
theorem gm_mk (a : PySem.W.findIn K (.ref C) m = some (some (.ref f))) (i : PySem.W.isFn K (.ref f) = true)
    (l : K.lookup f = some ⟨oc, od, .func (PySem.W.fnOf m qual (defArgs st) (defBody st) (defScope st) .none kV doc pm an cdv ct), osl⟩) (c : PySem.W.codeIn K cdv qual = true) (k : PySem.W.keepIn K (.ref f) = true) : GM K C m qual st :=
  ⟨f, _, fun_mk l c k, ⟨a, i, k⟩⟩
theorem gp_mk (a : PySem.W.findIn K (.ref C) m = some (some (.ref p))) (b : PySem.W.specialIn K (.ref p) "__get__" = some (some (.builtin "property.__get__"))) (t : PySem.W.takesIn K (.ref p) = some true)
    {rest : List Value} (r : PySem.W.recIn K p "property" = some (.ref f :: rest))
    (l : K.lookup f = some ⟨oc, od, .func (PySem.W.fnOf m qual (defArgs st) (defBody st) (defScope st) .none kV doc pm an cdv ct), osl⟩) (c : PySem.W.codeIn K cdv qual = true) (k : PySem.W.keepIn K (.ref f) = true) : GP K C m qual st :=
  ⟨p, f, _, fun_mk l c k, ⟨a, b, t, rest, r⟩⟩
theorem gs_mk {mc : Value} (a : PySem.W.findCls K (.ref C) mc m = some (.get (.builtin "staticmethod.__get__") (.ref p) .none (.ref C))) {rest : List Value} (r : PySem.W.recIn K p "staticmethod" = some (.ref f :: rest)) (rd : PySem.W.readsIn K C mc = true)
    (ga : PySem.W.specialIn K (.ref C) "__getattribute__" = some (some (.builtin "type.__getattribute__")))
    (l : K.lookup f = some ⟨oc, od, .func (PySem.W.fnOf m qual (defArgs st) (defBody st) (defScope st) .none kV doc pm an cdv ct), osl⟩) (c : PySem.W.codeIn K cdv qual = true) (k : PySem.W.keepIn K (.ref f) = true) : GS K C m qual st :=
  ⟨p, f, _, mc, fun_mk l c k, ⟨a, ⟨rest, r⟩, k⟩, ⟨rd, ga⟩⟩
/-- an __init__ with one default, an int -/
theorem gi_mk1 {T : Addr} {o : Obj} {i : Int} {t : Tok} {n : Nat} (mk : PySem.W.makesIn K C = true) (a : PySem.W.findIn K (.ref C) "__init__" = some (some (.ref f))) (i1 : PySem.W.isFn K (.ref f) = true) (kc : PySem.W.keepIn K (.ref C) = true)
    (l : K.lookup f = some ⟨oc, od, .func (PySem.W.fnOf "__init__" qual (defArgs st) (defBody st) (defScope st) (.ref T) kV doc pm an cdv ct), osl⟩) (lT : K.lookup T = some o) (oT : o.data = .seq [Value.int i t].toArray n) (c : PySem.W.codeIn K cdv qual = true) (k : PySem.W.keepIn K (.ref f) = true) : GI K C qual st [.int i] :=
  ⟨f, _, ⟨⟨oc, od, .ref T, kV, doc, pm, an, cdv, ct, osl, rfl, l, c, .inr ⟨List.cons_ne_nil _ _, T, o, _, n, rfl, lT, oT, .cons ⟨t, rfl⟩ .nil⟩, .inl rfl⟩, k⟩, ⟨mk, a, i1, kc⟩⟩
theorem m2_mk {cd : ClassData} (h : PySem.W.clsIn K C = some cd) (e : (cd.mro == [.ref C, .type "object"]) = true) : mro2 K C = true := by
  unfold mro2
  rw [h]
  exact e
theorem kO_mk : PySem.W.kitOne K (.ref C) (.ref C) = some true := by
  unfold PySem.W.kitOne
  rw [if_pos]
  exact beq_self_eq_true _
theorem kI_mk {cd : ClassData} (h : PySem.W.clsIn K C = some cd) (t : PySem.W.typeIn K (.ref C) = some (.type "type")) (s : PySem.W.subIn K (.type "int") (.ref C) = some false) : PySem.W.kitOne K (.type "int") (.ref C) = some false := by
  unfold PySem.W.kitOne
  rw [if_neg (by intro z; cases eq_of_beq z)]
  unfold PySem.W.kitCls
  simp only
  rw [h, t, s]
  rfl
theorem noattr_mk (h : PySem.W.findIn K (.ref C) x = some none) : NoAttr K C x := h
end
end Ly

/-! Exceptions of own classes, over any built-in base, held as values. -/
namespace Ly
open PySem PySem.Spec PyProof.Rows L2

/-- a class below a built-in exception -/
structure ExG (K : PySem.W.Frag) (C : Addr) (B newId initId : String) (bmB : List Value) : Prop where
  fb : ExcBaseFacts B newId initId bmB
  sf : StoreFacts B bmB "object.__setattr__" "object"
  xi : PySem.W.excInitIn K C bmB newId = true
  ov : PySem.W.excOver K C bmB = true
structure ExK (K : PySem.W.Frag) (C : Addr) : Prop where
  ex : ∃ B newId initId bmB, ExG K C B newId initId bmB
  hd : PySem.W.hasDictIn K C = true
  sa : PySem.W.findIn K (.ref C) "__setattr__" = some (some (.builtin "object.__setattr__"))
  ga : PySem.W.findIn K (.ref C) "__getattribute__" = some (some (.builtin "BaseException.__getattribute__"))
  gg : PySem.W.findIn K (.ref C) "__getattr__" = some none
  exC : PySem.W.subIn K (.ref C) (.type "BaseException") = some true
  kC : PySem.W.keepIn K (.ref C) = true
  ha : PySem.W.findIn K (.ref C) "__class__" = some (some (.builtin "object.__class__"))
  hn : PySem.W.specialIn K (.builtin "object.__class__") "__get__" = some (some (.builtin "getset_descriptor.__get__"))
  ht : PySem.W.takesIn K (.builtin "object.__class__") = some true
  hm : PySem.W.mroIn K C (.type "object") = some true

/-! ### self.f = y -/
section
variable {X : Cx} {pins : List (Addr × Obj)} {σ : L2.St} {H : Hp} {s : Shared} {a C dx : Addr} {f : Str} {y : V} {u : Value} {fs : List (Str × V)} {Q : Unit → Shared → Prop} {E : Value → Shared → Prop} {A : Around}
theorem xtaker {K : PySem.W.Frag} (h : PySem.W.findIn K (.ref C) f = some none) : PySem.W.takerIn K C f = some none := by
  unfold PySem.W.takerIn
  rw [h]
  rfl
theorem xst_new (T : ExK X.K C) (I : Inv X pins σ H s) (e : H a = some (exo a C none)) (hno : PySem.W.findIn X.K (.ref C) f = some none) (ry : RelV y u)
    (h : ∀ d s', H d = none → d ≠ a → Inv X pins σ (upd (upd (upd H d (exd d [])) a (exo a C (some d))) d (exd d [(f, y)])) s' → Q () s') : wpAny (model X.prog X.w) A (setAttr (.ref a) f u) Q E s := by
  obtain ⟨B, newId, initId, bmB, G⟩ := T.ex
  obtain ⟨t1, ho⟩ := exo_at I.hok e
  obtain ⟨cd, hcd, hhd⟩ := PySem.W.any_some T.hd
  obtain ⟨hp, g, d, t, os⟩ := s
  have hsz : a ≠ hp.objs.size := Nat.ne_of_lt (Heap.lt_size ho)
  refine PySem.W.set_plain I.kIn (od := none) ⟨ho, rfl, rfl, trivial⟩ T.sa ?_
  refine PySem.W.osa_openX (od := none) G.sf I.kIn ⟨ho, rfl, rfl, trivial⟩ G.ov (xtaker hno) fun b => ?_
  refine wpAny_bind (wpAny_pure (wpAny_bind (PySem.W.instanceDict_exc ho (PySem.W.looks_clsIn I.kIn hcd) hhd ?_)))
  have hpush : ∀ b o, hp.get? b = some o → (hp.push (PySem.W.dictOf [] 0)).get? b = some o := fun b o z => Heap.get?_push_of_some _ z
  have hnew : (hp.push (PySem.W.dictOf [] 0)).get? hp.objs.size = some (PySem.W.dictOf [] 0) := Heap.get?_push_at rfl rfl
  have ns0 : (hp.push (PySem.W.dictOf [] 0)).Ns hp.objs.size (fun _ => none) := ⟨_, #[], _, hnew, rfl, fun _ z => absurd z (by simp), fun _ => rfl⟩
  have J1 := I.laid (t' := t + 1) (o := exd hp.objs.size []) hpush (Nat.le_refl _) (exd_ok (Heap.Ns1.of_empty ns0) fun _ => True.intro)
  have nH : H hp.objs.size = none := I.hok.fresh (Nat.le_refl _)
  have e1 : upd H hp.objs.size (exd hp.objs.size []) a = some (exo a C none) := by rw [upd_ne hsz, e]
  have hx2 := Heap.get?_update_self (fun o => { o with dict := some hp.objs.size }) (hpush _ _ ho) rfl
  have k2 : ∀ b o, b ≠ a → (hp.push (PySem.W.dictOf [] 0)).get? b = some o → ((hp.push (PySem.W.dictOf [] 0)).update a fun o => { o with dict := some hp.objs.size }).get? b = some o := fun b o hb z => by rw [Heap.get?_update_other _ _ (Ne.symm hb)]; exact z
  have J2 := J1.write (t' := t + 1) (x := a) (e := a) (o := exo a C (some hp.objs.size)) (by rw [e1]; exact True.intro) (.inl rfl) k2 ⟨_, hx2⟩ (exo_ok hx2)
  have ns2 : ((hp.push (PySem.W.dictOf [] 0)).update a fun o => { o with dict := some hp.objs.size }).Ns hp.objs.size (fun _ => none) := by
    obtain ⟨o, es, ep, z1, z2⟩ := ns0
    exact ⟨o, es, ep, k2 _ _ (Ne.symm hsz) z1, z2⟩
  refine PySem.HandSPX.store_in_new ns2 fun h' tk' hn hs => ?_
  have ed : upd (upd H hp.objs.size (exd hp.objs.size [])) a (exo a C (some hp.objs.size)) hp.objs.size = some (exd hp.objs.size []) := by rw [upd_ne (Ne.symm hsz), upd_same]
  have hd' : ∃ o, h'.get? hp.objs.size = some o := by
    obtain ⟨o, _, _, z, _⟩ := hn
    exact ⟨o, z⟩
  have J3 := J2.write (t' := tk') (h' := h') (x := hp.objs.size) (e := hp.objs.size) (o := exd hp.objs.size [(f, y)]) (by rw [ed]; exact True.intro) (.inl rfl) (fun b o hb z => (hs.2 b hb).trans z) hd' (exd_ok hn (relO_put (fs := []) ry fun _ => True.intro))
  exact h _ _ nH (Ne.symm hsz) J3
theorem idict_some {M : Model} {x t1 : Addr} {cd : ClassData} {s : Shared} {A : Around} {E : Value → Shared → Prop} {Q : Option Addr → Shared → Prop} (hx : s.heap.get? x = some { cls := .ref C, dict := some dx, data := .fields #[.ref t1, .none, .none, .none, .bool false, .none] })
    (Lc : PySem.W.Looks M s.heap (classData C) cd) (hd : cd.hasDict = true) (h : Q (some dx) s) : wpAny M A (instanceDict x true) Q E s := by
  unfold instanceDict
  refine wpAny_bind (wpAny_loadPart hx ?_)
  refine wpAny_bind (Lc.here ?_)
  simp only [hd, Bool.not_true, Bool.false_eq_true, if_false]
  exact wpAny_pure h
theorem xst_old (T : ExK X.K C) (I : Inv X pins σ H s) (e : H a = some (exo a C (some dx))) (ed : H dx = some (exd dx fs)) (hl : fs.length ≤ 900) (hno : PySem.W.findIn X.K (.ref C) f = some none) (ry : RelV y u)
    (h : ∀ s', Inv X pins σ (upd H dx (exd dx ((f, y) :: fs))) s' → Q () s') : wpAny (model X.prog X.w) A (setAttr (.ref a) f u) Q E s := by
  obtain ⟨B, newId, initId, bmB, G⟩ := T.ex
  obtain ⟨t1, ho⟩ := exo_at I.hok e
  obtain ⟨mA, hns, rel⟩ := exd_at I.hok ed
  obtain ⟨cd, hcd, hhd⟩ := PySem.W.any_some T.hd
  have hw := within_of rel
  obtain ⟨hp, g, d, t, os⟩ := s
  obtain ⟨oD, _, _, hoD, _, _⟩ := hns.count hw
  have J : PySem.W.InstAt hp a { cls := .ref C, dict := some dx, data := .fields #[.ref t1, .none, .none, .none, .bool false, .none] } C (some oD) := ⟨ho, rfl, rfl, hoD⟩
  refine PySem.W.set_plain I.kIn J T.sa (PySem.W.osa_openX G.sf I.kIn J G.ov (xtaker hno) fun b => ?_)
  refine wpAny_bind (wpAny_pure (wpAny_bind (idict_some ho (PySem.W.looks_clsIn I.kIn hcd) hhd ?_)))
  refine PySem.OEX.store_in_old hns hw (by rw [List.length_map]; omega) fun h' tk' hn hs => ?_
  have hd' : ∃ o, h'.get? dx = some o := by
    obtain ⟨o, _, _, z, _⟩ := hn
    exact ⟨o, z⟩
  exact h _ (I.write (t' := tk') (h' := h') (x := dx) (e := dx) (o := exd dx ((f, y) :: fs)) (by rw [ed]; exact True.intro) (.inl rfl) (fun b o hb z => (hs.2 b hb).trans z) hd' (exd_ok hn (relO_put ry rel)))
end
/-- self.f = e, a field of an exception that is being made -/
def tXst (K : PySem.W.Frag) (f : Str) (to te : TE) : TS := fun D σ H => te σ H fun y H1 => to σ H1 fun x H2 => ∃ a C : Addr, x = .ref a ∧ ExK K C ∧ PySem.W.findIn K (.ref C) f = some none ∧
  ((H2 a = some (exo a C none) ∧ ∀ d, H2 d = none → d ≠ a → D.nx σ (upd (upd (upd H2 d (exd d [])) a (exo a C (some d))) d (exd d [(f, y)]))) ∨
    ∃ (d : Addr) (fs : List (Str × V)), H2 a = some (exo a C (some d)) ∧ H2 d = some (exd d fs) ∧ fs.length ≤ 900 ∧ D.nx σ (upd H2 d (exd d ((f, y) :: fs))))
section
variable {X : Cx} {o e : Expr} {to te : TE} {f : Str} {p' pos : Pos}
theorem ps_xst (ho : PE X o to) (he : PE X e te) (hs : swapsWith e (some (.Attribute o f p')) pos.line X.env = pure false := by rfl) : PS X (.Assign [.Attribute o f p'] e pos) (tXst X.K f to te) := by
  refine ⟨fun pins s σ H D I h => plainObj_wpAny_Assign_Attribute (thn (he.run pins s σ H _ I h) fun v s1 ⟨y, H1, I1, r1, q1⟩ => thn (ho.run pins s1 σ H1 _ I1 q1) fun u s2 hh => ?_) hs⟩
  obtain ⟨x, H2, I2, r2, a, C, rfl, T, hno, q⟩ := hh
  cases r2
  rcases q with ⟨ea, q⟩ | ⟨d, fs, ea, ed, hl, q⟩
  · exact xst_new T I2 ea hno r1 fun d s' n ne J => ⟨σ, _, J, q d n ne⟩
  · exact xst_old T I2 ea ed hl hno r1 fun s' J => ⟨σ, _, J, q⟩
end

/-! ### e.f -/
/-- the reading of e.f, e an exception that is held -/
def tXf (K : PySem.W.Frag) (f : Str) (te : TE) : TE := fun σ H Q => te σ H fun x H1 => ∃ (a C d : Addr) (fs : List (Str × V)) (v : V), x = .ref a ∧ ExK K C ∧ PySem.W.findIn K (.ref C) f = some none ∧ H1 a = some (exo a C (some d)) ∧ H1 d = some (exd d fs) ∧ fs.lookup f = some v ∧ Q v H1
theorem pe_xfv {X : Cx} {e : Expr} {te : TE} {pos : Pos} {n : Str} (he : PE X e te) (hb : attributeBase e n X.env (eval e X.env) = eval e X.env := by rfl) : PE X (.Attribute e n pos) (tXf X.K n te) := by
  refine ⟨fun pins s σ H Q I h => attr_of hb (thn (he.run pins s σ H _ I h) fun u s1 hh => ?_)⟩
  obtain ⟨x, H1, I1, rx, a, C, d, fs, v, rfl, T, hno, ea, ed, l, q⟩ := hh
  cases rx
  obtain ⟨t1, ho⟩ := exo_at I1.hok ea
  obtain ⟨mA, hns, hr⟩ := exd_at I1.hok ed
  obtain ⟨od, hod, hl⟩ := lookIn_ns hns
  obtain ⟨u, hu, ru⟩ := RelO.some_of (v := v) (o := mA n) (by rw [← l]; exact hr n)
  have J : PySem.W.InstAt s1.heap a { cls := .ref C, dict := some d, data := .fields #[.ref t1, .none, .none, .none, .bool false, .none] } C (some od) := ⟨ho, rfl, rfl, hod⟩
  exact HandSPX.exc_get I1.kIn J T.ga T.gg T.exC (PySem.W.findObj_own T.hd hno rfl (by rw [hl, hu])) (handed_of ru) ⟨v, H1, I1.tok _, ru, q⟩

/-! ### C(.., k = v, ..) -/
section
open Builtin Builtin.ObjectAttr
variable {prog : Program} {w : World} {A : Around} {E : Value → Shared → Prop} {R : Result → Shared → Prop} {h : Heap} {g : Array GenState} {d : Drawn} {t : Nat} {os : OsState} {M : Model}
variable {nm q : Str} {C N : Addr} {bs bm bmB : List Value} {hdct : Bool} {sn : List Str} {sub : List Value} {ab : Bool} {col : Option Bool} {dd : Option Addr} {k0 k1 k2 k3 k5 : Option Value} {B newId initId : String} {rest : List Value} {kws : List (Str × Value)}
theorem xck_new (F : ExcBaseFacts B newId initId bmB) (hT : ∀ X : String, bm.contains (.type X) = bmB.contains (.type X)) {Q : Unit → Shared → Prop} (hC : h.get? C = some (excClassObj nm q C N bs bm hdct sn sub ab col dd k0 k1 k2 k3 k5 newId))
    (hq : Q () ⟨h, g, d, t, os⟩) : wpAny M A (checkBuiltinCall newId ⟨.ref C :: rest, kws⟩) Q E ⟨h, g, d, t, os⟩ := by
  have c1 : (Value.ref C :: bm).contains (.type B) = true := by
    rw [List.contains_cons, hT, F.hasB, Bool.or_true]
  have c2 := F.noStar
  simp only [checkBuiltinCall, F.newKind, F.newSplit, F.newRow]
  repeat (first | with_reducible refine wpAny_loadPart_at hC ?_ | (with_reducible refine wpAny_isSubtype_exc hC ?_; rw [c1]) | with_reducible refine wpAny_staticBase_exc hC ?_ | with_reducible refine wpAny_madeBy_exc hC ?_ | simp only [bne_self_eq_false, Bool.false_eq_true, if_false] | wp_step)
  exact hq
theorem xnew (F : ExcBaseFacts B newId initId bmB) (hT : ∀ X : String, bm.contains (.type X) = bmB.contains (.type X)) (hC : h.get? C = some (excClassObj nm q C N bs bm hdct sn sub ab col dd k0 k1 k2 k3 k5 newId)) (hrest : rest.length ≤ sizeLine)
    (hq : R (.ok (.ret (.ref (h.objs.size + 1)))) ⟨(h.push (PySem.W.kdv_tup rest)).push (HandSPX.excO C h.objs.size), g, d, t, os⟩) : codeAny (model prog w) A (.builtin newId ⟨.ref C :: rest, kws⟩) R ⟨h, g, d, t, os⟩ := by
  have c0 := F.ends
  have c1 : (Value.ref C :: bm).contains (.type B) = true := by
    rw [List.contains_cons, hT, F.hasB, Bool.or_true]
  have c2 : (Value.ref C :: bm).contains (.type "AttributeError") = false := by
    rw [List.contains_cons, hT, F.noAttr]
    rfl
  have c3 : (Value.ref C :: bm).contains (.type "NameError") = false := by
    rw [List.contains_cons, hT, F.noName]
    rfl
  refine codeAny_builtinAt F.entry ?_
  unfold Builtin.«BaseException.__new__»
  refine PySem.wpAt_bind (?_ : PySem.wpAt _ _ _ (stack >>= _) _ _ _)
  refine PySem.wpAt_bind (PySem.wpAt_stack fun p below => PySem.wpAt_of_wpAny ?_)
  wp_walk
  refine PySem.wpAt_of_wpAny ?_
  rw [F.owner]
  repeat (first | with_reducible refine wpAny_madeHere_exc F.canon hC ?_ | with_reducible refine wpAny_loadPart_at hC ?_ | (with_reducible refine wpAny_isSubtype_exc hC ?_; first | rw [c1] | rw [c2] | rw [c3]) | wp_step)
  show R _ _
  rw [Heap.size_push]
  exact hq
theorem xtype (F : ExcBaseFacts B newId initId bmB) (hT : ∀ X : String, bm.contains (.type X) = bmB.contains (.type X)) {fI : Addr} {Q : Fin → Shared → Prop} (hC : h.get? C = some (excClassObj nm q C N bs bm hdct sn sub ab col dd k0 k1 k2 k3 k5 newId)) (hrest : rest.length ≤ sizeLine)
    (hi : PySem.W.Looks (model prog w) h (typeLookup (.ref C) "__init__") (some (.ref fI))) (hb : ∀ self, PySem.W.Looks (model prog w) h (bindSpecial (.ref fI) self) (.ref fI, [self]))
    (hq : codeAny (model prog w) A (.call (.ref fI) ⟨.ref (h.objs.size + 1) :: rest, kws⟩)
      (fun r s' => match r with | .ok (.ret v) => v = .none ∧ Q (.done (.ret (.ref (h.objs.size + 1)))) s' | .ok _ => False | .error e => E e s') ⟨(h.push (PySem.W.kdv_tup rest)).push (HandSPX.excO C h.objs.size), g, d, t, os⟩) :
    wpAny (model prog w) A (Builtin.«type.__call__» ⟨.ref C :: rest, kws⟩) Q E ⟨h, g, d, t, os⟩ := by
  repeat (first | with_reducible refine wpAny_loadPart_at hC ?_ | with_reducible refine wpAny_madeBy_exc hC ?_ | wp_step)
  refine codeAny_call_builtin_code (Code.quiet_builtin _ F.quiet) (xck_new F hT hC (xnew F hT hC hrest (?_ : wpAny _ _ _ _ _ _)))
  have k : ∀ b o, h.get? b = some o → ((h.push (PySem.W.kdv_tup rest)).push (HandSPX.excO C h.objs.size)).get? b = some o := fun b o z => Heap.get?_push_of_some _ (Heap.get?_push_of_some _ z)
  have c1 := k _ _ hC
  have c2 : ((h.push (PySem.W.kdv_tup rest)).push (HandSPX.excO C h.objs.size)).get? (h.objs.size + 1) = some (HandSPX.excO C h.objs.size) := by heap_get
  have c3 : (Value.ref C :: bm).contains (.ref C) = true := by simp
  have i1 := hi.keeps k
  have i2 := (hb (.ref (h.objs.size + 1))).keeps k
  unfold isInstance
  repeat (first | with_reducible refine wpAny_loadPart_at c2 ?_ | (with_reducible refine wpAny_isSubtype_exc c1 ?_; rw [c3]) | wp_step)
  refine (i1.at ?_ : wpAny _ _ (typeLookup (.ref C) _) _ _ _)
  refine wpAny_holding (wpAny_bind (i2.at (wpAny_bind (wpAny_call (codeAny_mono hq fun r s' z => ?_)))))
  cases r with
  | error e => exact z
  | ok fl =>
    cases fl with
    | ret v =>
      obtain ⟨rfl, z⟩ := z
      first | exact wpAny_pure (wpAny_pure z) | (wp_walk; exact z)
    | next => exact z.elim
    | brk => exact z.elim
    | cont => exact z.elim
theorem xck_type {Q : Unit → Shared → Prop} (hC : h.get? C = some (excClassObj nm q C N bs bm hdct sn sub ab col dd k0 k1 k2 k3 k5 newId)) (hq : Q () ⟨h, g, d, t, os⟩) : wpAny M A (checkBuiltinCall "type.__call__" ⟨.ref C :: rest, kws⟩) Q E ⟨h, g, d, t, os⟩ := by
  have c1 := tc_sub
  have c2 : (⟨h, g, d, t, os⟩ : Shared).TypeIs (.ref C) "type" := ⟨_, hC, rfl⟩
  simp only [checkBuiltinCall, tc_kind, tc_split]
  repeat (any_goals (first | assumption | with_reducible refine wpAny_loadPart_at hC ?_ | with_reducible refine wpAny_onRaise ?_ | with_reducible refine wpAny_map ?_ | wp_step))
theorem xcall (F : ExcBaseFacts B newId initId bmB) (hT : ∀ X : String, bm.contains (.type X) = bmB.contains (.type X)) {fI : Addr} (hC : h.get? C = some (excClassObj nm q C N bs bm hdct sn sub ab col dd k0 k1 k2 k3 k5 newId)) (hrest : rest.length ≤ sizeLine)
    (hi : PySem.W.Looks (model prog w) h (typeLookup (.ref C) "__init__") (some (.ref fI))) (hb : ∀ self, PySem.W.Looks (model prog w) h (bindSpecial (.ref fI) self) (.ref fI, [self]))
    (hq : codeAny (model prog w) (A.under (.builtin "type.__call__" ⟨.ref C :: rest, kws⟩)) (.call (.ref fI) ⟨.ref (h.objs.size + 1) :: rest, kws⟩) (PySem.W.InitBack (h.objs.size + 1) R)
      ⟨(h.push (PySem.W.kdv_tup rest)).push (HandSPX.excO C h.objs.size), g, d, t, os⟩) : codeAny (model prog w) A (.call (.ref C) ⟨rest, kws⟩) R ⟨h, g, d, t, os⟩ := by
  have f1 := tc_lookup
  have f2 := tc_bind (.ref C)
  have f3 : (⟨h, g, d, t, os⟩ : Shared).TypeIs (.ref C) "type" := ⟨_, hC, rfl⟩
  refine codeAny_of_tree (?_ : wpAny _ _ (callAny (.ref C) _) _ _ _)
  repeat (any_goals (first | assumption | with_reducible refine wpAny_loadPart_at hC ?_ | wp_step))
  refine ⟨rfl, codeAny_call_builtin_at (Code.quiet_builtin _ (by decide +kernel)) entry_typeCall (xck_type hC (xtype F hT hC hrest hi hb (codeAny_mono hq fun r s' z => ?_)))⟩
  rcases r with e | (v | _ | _ | _) <;> exact z
end
end Ly

namespace Ly
open PySem PySem.Spec PyProof.Rows L2
/-- the keywords' values, the last one first -/
def gRv {α : Type} (us ws : List α) : List α := us ++ ws.reverse
/-- a class of the program below a built-in exception, with an __init__ of its own -/
structure GX (K : PySem.W.Frag) (mg : Str → Option Value) (x : Str) (C : Addr) (qual : Str) (st : Stmt) : Prop where
  xk : ExK K C
  mg : mg x = some (.ref C)
  ex : ∃ (f : Addr) (fd : FuncData), L2.Fun K "__init__" qual st f fd ∧ PySem.W.findIn K (.ref C) "__init__" = some (some (.ref f)) ∧ PySem.W.typeIn K (.ref f) = some (.type "function")
structure XMak (W : Wd) (k : Nat) (x : Str) (C : Addr) (n : Nat) (ks : List Str) (sp : Sp) : Prop where
  xk : ExK W.K C
  mg : W.mg x = some (.ref C)
  ex : ∃ (f : Addr) (fd : FuncData) (ps : List Str), PySem.W.findIn W.K (.ref C) "__init__" = some (some (.ref f)) ∧ PySem.W.typeIn W.K (.ref f) = some (.type "function") ∧ FnOk W.P W.w W.K W.mg W.base CX0 k f fd ps sp ∧ KBn W.K fd ps (n + 1) ks gRv gRv
def XBindOk (qual : Str) (st : Stmt) (ps : List Str) (n : Nat) (ks : List Str) : Prop :=
  ∀ (kV doc pm : Value) (an : Option Addr) (cdv ct : Value) (us ws : List Value), us.length = n + 1 → ws.length = ks.length → bindArgs (PySem.W.fnOf "__init__" qual (defArgs st) (defBody st) (defScope st) .none kV doc pm an cdv ct) ⟨us, ks.zip ws⟩ = pure (ps.zip (gRv us ws))
theorem vals_rev : ∀ {vs : List V} {us : List Value}, Vals vs us → Vals vs.reverse us.reverse := fun {vs us} h => by
  induction h with
  | nil => exact .nil
  | cons h _ ih =>
    rw [List.reverse_cons, List.reverse_cons]
    exact ih.append (.cons h .nil)
theorem xmak_of {W : Wd} {k n : Nat} {x : Str} {C : Addr} {qual : Str} {st : Stmt} {N ps ks : List Str} {sp : Sp} (g : GX W.K W.mg x C qual st) (S : FnScope N ps (defScope st)) (hb : XBindOk qual st ps n ks) (len : ∀ vs H Q E, sp vs H Q E → vs.length = ps.length) (hbody : BodyOk W k N qual st sp) :
    XMak W (k + 1) x C n ks sp := by
  obtain ⟨f, fd, F, a, b⟩ := g.ex
  have F2 := F.ok S len (fun cdv A outer s H vs Q E => hbody f cdv A outer s H vs Q E)
  obtain ⟨oc, od, kV, doc, pm, an, cdv, ct, osl, rfl, lk, hcd⟩ := F.ex
  exact ⟨g.xk, g.mg, f, _, ps, a, b, F2, ⟨fun s us ws _ l1 l2 => .of_eq (hb kV doc pm an cdv ct us ws l1 l2), fun r1 r2 => r1.append (vals_rev r2)⟩⟩
section
variable {X : Cx} {k j n : Nat} {C : Addr} {x : Str} {ks : List Str} {sp : Sp} {p pos : Pos} {e : Expr} {es : List Expr} {kws : List Keyword} {t tk : TA}
def rMkX (C : Addr) (n : Nat) (m : Nat) (sp : Sp) (zs : List V) : List V → Hp → VK → Prop := fun vs H Q => vs.length = n ∧ n ≤ 9 ∧ zs.length = m ∧ ∀ a, H a = none → sp (gRv (.ref a :: vs) zs) (upd H a (exo a C none)) (fun v H2 => v = .non ∧ Q (.ref a) H2) E0
theorem run_mkx {pins : List (Addr × Obj)} {σ : L2.St} {H : Hp} {s : Shared} {Q : VK} {us ws : List Value} {vs zs : List V} (M : XMak ⟨X.prog, X.w, X.K, X.mg, X.base⟩ k x C n ks sp) (hr : Room (k + 1) X.A) (I : Inv X pins σ H s) (r : Vals vs us) (rz : Vals zs ws) (h : rMkX C n ks.length sp zs vs H Q) :
    wpAny (model X.prog X.w) X.A (call (.ref C) us (ks.zip ws)) (EP X pins σ Q) X.xe s := by
  obtain ⟨f, fd, ps, iC, tI, F, hb⟩ := M.ex
  obtain ⟨B, newId, initId, bmB, G⟩ := M.xk.ex
  obtain ⟨l1, l9, l2, hq⟩ := h
  obtain ⟨hp, g, dr, tk, os⟩ := s
  obtain ⟨nm, N, q, bs, bm, hdct, sn, sub, ab, col, dd, k0, k1, k2, k3, k5, hC, hT⟩ := PySem.W.excInit_of I.kIn G.xi
  have hsz : hp.objs.size ≤ hp.objs.size + 1 := Nat.le_succ _
  have hq2 := hq (hp.objs.size + 1) (I.hok.fresh hsz)
  have kk : ∀ b o, hp.get? b = some o → ((hp.push (PySem.W.kdv_tup us)).push (PySem.HandSPX.excO C hp.objs.size)).get? b = some o := fun b o z => Heap.get?_push_of_some _ (Heap.get?_push_of_some _ z)
  have hget : ((hp.push (PySem.W.kdv_tup us)).push (PySem.HandSPX.excO C hp.objs.size)).get? (hp.objs.size + 1) = some (PySem.HandSPX.excO C hp.objs.size) := by heap_get
  have I2 : Inv X pins σ (upd H (hp.objs.size + 1) (exo (hp.objs.size + 1) C none)) ⟨(hp.push (PySem.W.kdv_tup us)).push (PySem.HandSPX.excO C hp.objs.size), g, dr, tk, os⟩ :=
    I.laid (t' := tk) (o := exo (hp.objs.size + 1) C none) kk hsz (exo_ok hget)
  have r1 : Vals (V.ref (hp.objs.size + 1) :: vs) (Value.ref (hp.objs.size + 1) :: us) := .cons rfl r
  have r2 := hb.rel r1 rz
  have n1 : (Value.ref (hp.objs.size + 1) :: us).length = n + 1 := by rw [List.length_cons, ← r.length, l1]
  have hus : us.length ≤ sizeLine := by
    rw [← r.length, l1, sizeLine_eq]
    omega
  refine wpAny_call (xcall G.fb hT hC hus (PySem.W.looks_findIn I.kIn iC) (fun self => PySem.W.bind_fn I.kIn self tI) (codeAny_mono (F.run _ X.stack _ _ ⟨Value.ref (hp.objs.size + 1) :: us, ks.zip ws⟩ (gRv (Value.ref (hp.objs.size + 1) :: us) ws) _ _ E0 (hr.make C us (ks.zip ws))
    (I2.env0.make C us (ks.zip ws)) (hb.to _ (Value.ref (hp.objs.size + 1) :: us) ws I2.kIn n1 (rz.length.symm.trans l2)) r2 hq2) fun r s' hq' => ?_))
  cases r with
  | error e => exact False.elim hq'
  | ok fl =>
    cases fl with
    | ret u =>
      obtain ⟨v, H', I3, rv, ev, q3⟩ := I2.after hq'
      subst ev
      exact ⟨rv, V.ref (hp.objs.size + 1), H', I3, rfl, q3⟩
    | next => exact False.elim hq'
    | brk => exact False.elim hq'
    | cont => exact False.elim hq'
/-- C(e, ..) -/
theorem pe_mkx (M : XMak ⟨X.prog, X.w, X.K, X.mg, X.base⟩ k x C n [] sp) (hr : Room j X.A) (hk : k + 1 ≤ j) (hg : Gl X x) (ha : PA X (e :: es) t) (hdb : (x == ("__debug__" : Str)) = false := by decide)
    (he : starEach (e :: es) X.env = (false, eval e X.env) :: starEach es X.env := by rfl) (hpl : (backTo pos (starEach es X.env)).any (·.1) = false := by rfl) :
    PE X (.Call (.Name x p) (e :: es) [] pos) (tCB (rMkX C n 0 sp []) t) := by
  refine ⟨fun pins s σ H Q I h => ?_⟩
  refine wpAny_Call_Name_kw (ld_glob I hg M.mg ?_ hdb)
  refine PySem.W.callWith_K (h₀ := X.base) I.ok.mod.kin M.xk.kC (thn (ha.run pos pins s σ H _ I h) fun us s1 ⟨vs, H1, I1, r, q⟩ => ⟨I1.kIn, ?_⟩) he hpl
  exact run_mkx (ks := []) (ws := []) M (hr.mono hk) I1 r .nil q
/-- C() -/
theorem pe_mkx0 (M : XMak ⟨X.prog, X.w, X.K, X.mg, X.base⟩ k x C n [] sp) (hr : Room j X.A) (hk : k + 1 ≤ j) (hg : Gl X x) (hdb : (x == ("__debug__" : Str)) = false := by decide) : PE X (.Call (.Name x p) [] [] pos) (tCB (rMkX C n 0 sp []) tNil) := by
  refine ⟨fun pins s σ H Q I h => ?_⟩
  refine wpAny_Call_Name_kw (ld_glob I hg M.mg ?_ hdb)
  exact PySem.W.callWith_K0 I.kIn M.xk.kC (run_mkx (us := []) (ks := []) (ws := []) M (hr.mono hk) I .nil .nil h)
/-- C(k = v, ..) -/
theorem pe_mkxK (M : XMak ⟨X.prog, X.w, X.K, X.mg, X.base⟩ k x C 0 ks sp) (hr : Room j X.A) (hk : k + 1 ≤ j) (hg : Gl X x) (hkw : PK X kws tk)
    (hall : (backToKw pos (keywordEach kws X.env)).all (·.1.isSome) = true := by rfl) (hks : (backToKw pos (keywordEach kws X.env)).filterMap (·.1) = ks := by rfl) (hdb : (x == ("__debug__" : Str)) = false := by decide)
    (hpl : ((backTo pos (starEach [] X.env)).any (·.1) || (backToKw pos (keywordEach kws X.env)).any (·.1.isNone)) = false := by rfl) :
    PE X (.Call (.Name x p) [] kws pos) (tCB (fun zs => rMkX C 0 ks.length sp zs []) tk) := by
  refine ⟨fun pins s σ H Q I h => ?_⟩
  refine wpAny_Call_Name_kw (ld_glob I hg M.mg ?_ hdb)
  refine PySem.W.callWith_KW0 (h₀ := X.base) I.ok.mod.kin M.xk.kC hall ?_ hpl
  refine thn (hkw.run pos pins s σ H _ I h) fun ws s2 ⟨zs, H2, I2, rz, q2⟩ => ⟨I2.kIn, ?_⟩
  rw [hks]
  exact run_mkx (us := []) M (hr.mono hk) I2 .nil rz q2
end
/-! ### isinstance -/
/-- at a: an exception of class C with these fields -/
def ExAt (H : Hp) (a C : Addr) (fs : List (Str × V)) : Prop := (fs = [] ∧ H a = some (exo a C none)) ∨ ∃ d, H a = some (exo a C (some d)) ∧ H d = some (exd d fs)
theorem exAt_inst {X : Cx} {pins : List (Addr × Obj)} {σ : L2.St} {H : Hp} {s : Shared} {a C : Addr} {fs : List (Str × V)} (I : Inv X pins σ H s) (e : ExAt H a C fs) : ∃ ox od, PySem.W.InstAt s.heap a ox C od := by
  rcases e with ⟨_, e⟩ | ⟨d, e, e2⟩
  · obtain ⟨t1, ho⟩ := exo_at I.hok e
    exact ⟨_, none, ho, rfl, rfl, trivial⟩
  · obtain ⟨t1, ho⟩ := exo_at I.hok e
    obtain ⟨mA, hns, hr⟩ := exd_at I.hok e2
    obtain ⟨od, hod, hl⟩ := lookIn_ns hns
    exact ⟨_, some od, ho, rfl, rfl, hod⟩
def rIsX (K : PySem.W.Frag) : List V → Hp → VK → Prop := fun xs H Q => ∃ (a C : Addr) (fs : List (Str × V)) (c : V) (cv : Value) (b : Bool), xs = [.ref a, c] ∧ ExAt H a C fs ∧ ExK K C ∧ (∀ u, RelV c u → u = cv) ∧ PySem.W.kitOne K (.ref C) cv = some b ∧ Q (.bl b) H
theorem call_isX {X : Cx} : CallR X (.builtin "isinstance") (rIsX X.K) := by
  intro pins s σ H xs us Q I r h
  obtain ⟨a, C, fs, c, cv, b, rfl, ea, T, hcv, e, q⟩ := h
  cases r with
  | cons ru r =>
    cases r with
    | cons rc r =>
      cases r
      cases ru
      obtain rfl := hcv _ rc
      obtain ⟨ox, od, J⟩ := exAt_inst I ea
      obtain ⟨cd, hcd, _⟩ := PySem.W.any_some T.hd
      exact PySem.W.kia_one (PySem.W.kitx_exc (by rw [hcd]; rfl) T.ga T.gg T.exC T.ha T.hn T.ht T.hm) I.kIn J e (fun z => nomatch z) fun tk => ⟨.bl b, H, I.kept (t' := tk) fun _ _ z => z, rfl, q⟩
/-! ### readings -/
/-- __init__(self, y): self.f = y -/
def spX1 (C : Addr) (f : Str) : Sp := fun vs H Q _ => ∃ (a : Addr) (y : V), vs = [.ref a, y] ∧ H a = some (exo a C none) ∧ ∀ d, H d = none → d ≠ a → Q .non (upd (upd (upd H d (exd d [])) a (exo a C (some d))) d (exd d [(f, y)]))
/-- __init__(self, y, z): self.f = y, self.g = z -/
def spX2 (C : Addr) (f g : Str) : Sp := fun vs H Q _ => ∃ (a : Addr) (y z : V), vs = [.ref a, y, z] ∧ H a = some (exo a C none) ∧
  ∀ d, H d = none → d ≠ a → Q .non (upd (upd (upd (upd H d (exd d [])) a (exo a C (some d))) d (exd d [(f, y)])) d (exd d [(g, z), (f, y)]))
/-- __init__(self): pass -/
def spX0 (C : Addr) : Sp := fun vs H Q _ => ∃ a : Addr, vs = [.ref a] ∧ H a = some (exo a C none) ∧ Q .non H
section
variable {H : Hp} {Q : VK} {C : Addr} {f g : Str} {y z : V}
theorem xlaid {a d : Addr} {fs : List (Str × V)} {o : HO} (n : H a = none) (nd : upd H a (exo a C none) d = none) (ne : d ≠ a) :
    (∀ c u, H c = some u → upd (upd (upd (upd H a (exo a C none)) d o) a (exo a C (some d))) d (exd d fs) c = some u) ∧ ExAt (upd (upd (upd (upd H a (exo a C none)) d o) a (exo a C (some d))) d (exd d fs)) a C fs := by
  rw [upd_ne ne] at nd
  refine ⟨fun c u e => ?_, .inr ⟨d, ?_, upd_same⟩⟩
  · have c1 := ne_of_none e nd
    have c2 := ne_of_none e n
    rw [upd_ne c1, upd_ne c2, upd_ne c1, upd_ne c2]
    exact e
  · rw [upd_ne (Ne.symm ne), upd_same]
theorem i_mkx1 (q : ∀ a H', H a = none → (∀ c u, H c = some u → H' c = some u) → ExAt H' a C [(f, y)] → Q (.ref a) H') : rMkX C 1 0 (spX1 C f) [] [y] H Q :=
  ⟨rfl, by decide, rfl, fun a n => ⟨a, y, rfl, upd_same, fun d nd ne => ⟨rfl, q a _ n (xlaid n nd ne).1 (xlaid n nd ne).2⟩⟩⟩
theorem i_mkx1K (q : ∀ a H', H a = none → (∀ c u, H c = some u → H' c = some u) → ExAt H' a C [(f, y)] → Q (.ref a) H') : rMkX C 0 1 (spX1 C f) [y] [] H Q :=
  ⟨rfl, by decide, rfl, fun a n => ⟨a, y, rfl, upd_same, fun d nd ne => ⟨rfl, q a _ n (xlaid n nd ne).1 (xlaid n nd ne).2⟩⟩⟩
theorem xup {d : Addr} {o o' : HO} : upd (upd H d o) d o' = upd H d o' := by
  funext b
  by_cases e : b = d
  · rw [e, upd_same, upd_same]
  · rw [upd_ne e, upd_ne e, upd_ne e]
theorem i_mkx2 (q : ∀ a H', H a = none → (∀ c u, H c = some u → H' c = some u) → ExAt H' a C [(g, z), (f, y)] → Q (.ref a) H') : rMkX C 2 0 (spX2 C f g) [] [y, z] H Q :=
  ⟨rfl, by decide, rfl, fun a n => ⟨a, y, z, rfl, upd_same, fun d nd ne => ⟨rfl, by
    rw [xup]
    exact q a _ n (xlaid n nd ne).1 (xlaid n nd ne).2⟩⟩⟩
theorem i_mkx2K (q : ∀ a H', H a = none → (∀ c u, H c = some u → H' c = some u) → ExAt H' a C [(g, z), (f, y)] → Q (.ref a) H') : rMkX C 0 2 (spX2 C f g) [z, y] [] H Q :=
  ⟨rfl, by decide, rfl, fun a n => ⟨a, y, z, rfl, upd_same, fun d nd ne => ⟨rfl, by
    rw [xup]
    exact q a _ n (xlaid n nd ne).1 (xlaid n nd ne).2⟩⟩⟩
theorem i_mkx0 (q : ∀ a H', H a = none → (∀ c u, H c = some u → H' c = some u) → ExAt H' a C [] → Q (.ref a) H') : rMkX C 0 0 (spX0 C) [] [] H Q :=
  ⟨rfl, by decide, rfl, fun a n => ⟨a, rfl, upd_same, ⟨rfl, q a _ n (fun c u e => by
    rw [upd_ne (ne_of_none e n)]
    exact e) (.inl ⟨rfl, upd_same⟩)⟩⟩⟩
end
end Ly

namespace Ly
/-! ### fractions as pairs -/
def G (t b : Int) : Int := (Int.gcd t b : Int)
/-- top and bottom in lowest terms, the bottom above 0 -/
def Nu (t b : Int) : Int := if 0 < b then t / G t b else (-t) / G t b
def De (t b : Int) : Int := if 0 < b then b / G t b else (-b) / G t b
structure Lo (t b : Int) : Prop where
  pos : 0 < b
  one : Int.gcd t b = 1
theorem G_pos {t b : Int} (h : b ≠ 0) : 0 < G t b := by
  unfold G
  have := Int.gcd_pos_of_ne_zero_right t h
  omega
theorem G_dl (t b : Int) : G t b ∣ t := Int.gcd_dvd_left ..
theorem G_dr (t b : Int) : G t b ∣ b := Int.gcd_dvd_right ..
theorem fdiv_exact {x g : Int} (hg : 0 < g) (h : g ∣ x) : x.fdiv g = x / g := Int.fdiv_eq_ediv_of_nonneg x (by omega)
theorem fdiv_exact_neg {x g : Int} (hg : 0 < g) (h : g ∣ x) : x.fdiv (-g) = (-x) / g := by
  obtain ⟨q, rfl⟩ := h
  have e1 : (g * q).fdiv (-g) = -q := by
    rw [show g * q = (-g) * (-q) by rw [Int.neg_mul_neg]]
    exact Int.mul_fdiv_cancel_left (-q) (by omega)
  rw [e1, show -(g * q) = g * (-q) by rw [Int.mul_neg]]
  exact (Int.mul_ediv_cancel_left (-q) (by omega)).symm
/-- what Ratio's constructor works out -/
theorem nu_of {t b : Int} (h : b ≠ 0) : t.fdiv (if 0 < b then G t b else -G t b) = Nu t b := by
  unfold Nu
  split
  · exact fdiv_exact (G_pos h) (G_dl t b)
  · exact fdiv_exact_neg (G_pos h) (G_dl t b)
theorem de_of {t b : Int} (h : b ≠ 0) : b.fdiv (if 0 < b then G t b else -G t b) = De t b := by
  unfold De
  split
  · exact fdiv_exact (G_pos h) (G_dr t b)
  · exact fdiv_exact_neg (G_pos h) (G_dr t b)
theorem Lo.nu {t b : Int} (l : Lo t b) : Nu t b = t := by
  unfold Nu G
  rw [if_pos l.pos, l.one]
  exact Int.ediv_one t
theorem Lo.de {t b : Int} (l : Lo t b) : De t b = b := by
  unfold De G
  rw [if_pos l.pos, l.one]
  exact Int.ediv_one b
theorem lo_int (i : Int) : Lo i 1 := ⟨by decide, by simp⟩
theorem pos_of_mul {g q : Int} (hg : 0 < g) (h : 0 < g * q) : 0 < q := by
  rcases Int.lt_or_le 0 q with k | k
  · exact k
  · have z := Int.mul_le_mul_of_nonneg_left k (Int.le_of_lt hg)
    rw [Int.mul_zero] at z
    omega
theorem lo_nu {t b : Int} (h : b ≠ 0) : Lo (Nu t b) (De t b) := by
  have hg := G_pos (t := t) h
  obtain ⟨p, hp⟩ := G_dl t b
  obtain ⟨q, hq⟩ := G_dr t b
  have gp : ∀ c : Int, G t b * c / G t b = c := fun c => Int.mul_ediv_cancel_left c (by omega)
  have hc : Int.gcd p q = 1 := by
    have e : Int.gcd (G t b * p) (G t b * q) = (G t b).natAbs * Int.gcd p q := Int.gcd_mul_left ..
    rw [← hp, ← hq] at e
    have e2 : (G t b).natAbs = Int.gcd t b := by unfold G; simp
    rw [e2] at e
    have hpos : 0 < Int.gcd t b := Int.gcd_pos_of_ne_zero_right t h
    exact Nat.eq_of_mul_eq_mul_left hpos (by omega)
  unfold Nu De
  by_cases hb : 0 < b
  · rw [if_pos hb, if_pos hb]
    have e1 : t / G t b = p := by
      have z := gp p
      rw [← hp] at z
      exact z
    have e2 : b / G t b = q := by
      have z := gp q
      rw [← hq] at z
      exact z
    rw [e1, e2]
    refine ⟨?_, hc⟩
    have : 0 < G t b * q := by rw [← hq]; exact hb
    exact pos_of_mul hg this
  · rw [if_neg hb, if_neg hb]
    have e1 : -t / G t b = -p := by
      have z := gp (-p)
      rw [Int.mul_neg, ← hp] at z
      exact z
    have e2 : -b / G t b = -q := by
      have z := gp (-q)
      rw [Int.mul_neg, ← hq] at z
      exact z
    rw [e1, e2]
    refine ⟨?_, by rw [Int.gcd_neg, Int.neg_gcd]; exact hc⟩
    have : 0 < G t b * (-q) := by rw [Int.mul_neg, ← hq]; omega
    exact pos_of_mul hg this
theorem nu_le (t b : Int) (h : b ≠ 0) : (Nu t b).natAbs ≤ t.natAbs := by
  have hg := G_pos (t := t) h
  unfold Nu
  split
  · exact Int.natAbs_ediv_le_natAbs ..
  · have := Int.natAbs_ediv_le_natAbs (-t) (G t b)
    omega
theorem de_le (t b : Int) (h : b ≠ 0) : (De t b).natAbs ≤ b.natAbs := by
  unfold De
  split
  · exact Int.natAbs_ediv_le_natAbs ..
  · have := Int.natAbs_ediv_le_natAbs (-b) (G t b)
    omega
theorem g_le (t b : Int) (h : b ≠ 0) : (G t b).natAbs ≤ b.natAbs := by
  have := Int.le_of_dvd (show (0 : Int) < b.natAbs by omega) (show G t b ∣ (b.natAbs : Int) from by
    rw [Int.dvd_natAbs]
    exact G_dr t b)
  have := G_pos (t := t) h
  omega
/-- floors are of the fraction, not of its writing -/
theorem fdiv_nu {x y : Int} (h : y ≠ 0) : x.fdiv y = Nu x y / De x y := by
  have hg := G_pos (t := x) h
  obtain ⟨p, hp⟩ := G_dl x y
  obtain ⟨q, hq⟩ := G_dr x y
  have gp : ∀ c : Int, G x y * c / G x y = c := fun c => Int.mul_ediv_cancel_left c (by omega)
  have e1 : x / G x y = p := by
    have z := gp p
    rw [← hp] at z
    exact z
  have e2 : y / G x y = q := by
    have z := gp q
    rw [← hq] at z
    exact z
  have e3 : -x / G x y = -p := by
    have z := gp (-p)
    rw [Int.mul_neg, ← hp] at z
    exact z
  have e4 : -y / G x y = -q := by
    have z := gp (-q)
    rw [Int.mul_neg, ← hq] at z
    exact z
  unfold Nu De
  by_cases hy : 0 < y
  · rw [if_pos hy, if_pos hy, e1, e2, Int.fdiv_eq_ediv_of_nonneg x (by omega)]
    have z := Int.mul_ediv_mul_of_pos p q hg
    rw [← hp, ← hq] at z
    exact z
  · rw [if_neg hy, if_neg hy, e3, e4]
    have k : x.fdiv y = (-x).fdiv (-y) := (Int.neg_fdiv_neg x y).symm
    rw [k, Int.fdiv_eq_ediv_of_nonneg (-x) (by omega)]
    have z := Int.mul_ediv_mul_of_pos (-p) (-q) hg
    rw [Int.mul_neg, Int.mul_neg, ← hp, ← hq] at z
    exact z
end Ly

namespace Ly
open PySem PySem.Spec PyProof.Rows L2
section
variable {σ : L2.St} {H H' : Hp} {Q : VK} {K : PySem.W.Frag} {v x y : V} {ta tb te : TE} {t u : TA} {i j : Int} {D : Ends} {C : Addr} {sp : Sp} {m : Str}
theorem i_drop (q : te σ H fun _ H1 => D.nx σ H1) : tDrop te D σ H := q
theorem i_not {tt : TT} {Q : Bool → Hp → Prop} (q : tt σ H fun c H1 => Q (!c) H1) : tNot tt σ H Q := q
theorem i_or {tt uu : TT} {Q : Bool → Hp → Prop} (q : tt σ H fun c H1 => if c = true then Q true H1 else uu σ H1 Q) : tOr tt uu σ H Q := q
theorem i_and {tt uu : TT} {Q : Bool → Hp → Prop} (q : tt σ H fun c H1 => if c = true then uu σ H1 Q else Q false H1) : tAnd tt uu σ H Q := q
theorem i_tb {Q : Bool → Hp → Prop} (q : te σ H fun x H1 => ∃ c, x = .bl c ∧ Q c H1) : tB te σ H Q := q
theorem i_andV (q : ta σ H fun x H1 => ∃ c, x = .bl c ∧ if c = true then tb σ H1 Q else Q (.bl false) H1) : tAndV ta tb σ H Q := q
theorem i_orV (q : ta σ H fun x H1 => ∃ c, x = .bl c ∧ if c = true then Q (.bl true) H1 else tb σ H1 Q) : tOrV ta tb σ H Q := q
theorem i_notV (q : ta σ H fun x H1 => ∃ c, x = .bl c ∧ Q (.bl (!c)) H1) : tNotV ta σ H Q := q
theorem i_ifx {tt : TT} (q : tt σ H fun c H1 => if c = true then ta σ H1 Q else tb σ H1 Q) : tIf tt ta tb σ H Q := q
theorem i_ext {P : Bool → Prop} (h : P true) : ∃ c, V.bl true = V.bl c ∧ P c := ⟨true, rfl, h⟩
theorem i_exf {P : Bool → Prop} (h : P false) : ∃ c, V.bl false = V.bl c ∧ P c := ⟨false, rfl, h⟩
theorem i_exn {b : Bool} {P : Bool → Prop} (h : P b) : ∃ c, V.bl b = V.bl c ∧ P c := ⟨b, rfl, h⟩
theorem i_itt {A B : Prop} (h : A) : if true = true then A else B := iteT h
theorem i_itf {A B : Prop} (h : B) : if false = true then A else B := iteF h
theorem i_nt {A B : Prop} (h : B) : if (!true) = true then A else B := iteF h
theorem i_nf {A B : Prop} (h : A) : if (!false) = true then A else B := iteT h
theorem i_ndec {p A B : Prop} [Decidable p] (h1 : p → B) (h2 : ¬ p → A) : if (!decide p) = true then A else B := by
  by_cases h : p
  · rw [decide_eq_true h]
    exact iteF (h1 h)
  · rw [decide_eq_false h]
    exact iteT (h2 h)
theorem i_gcd {a b : Int} (q : Q (.int (G a b)) H) : rGcd [.int a, .int b] H Q := ⟨a, b, rfl, q⟩
def rFld (K : PySem.W.Frag) (f : Str) : V → Hp → VK → Prop := fun x H1 Q => ∃ a C dx fs v, x = .ref a ∧ H1 a = some (.ins C dx fs) ∧ Cls K C ∧ NoAttr K C f ∧ fs.lookup f = some v ∧ Q v H1
theorem i_fld {f : Str} (q : ta σ H fun x H1 => rFld K f x H1 Q) : tFld K ta f σ H Q := q
def rSFld (K : PySem.W.Frag) (f : Str) (y x : V) (H2 : Hp) (q : Hp → Prop) : Prop := ∃ a C dx fs, x = .ref a ∧ H2 a = some (.ins C dx fs) ∧ Cls K C ∧ NoAttr K C f ∧ fs.length < 1000 ∧ q (upd H2 a (.ins C dx (putF f y fs)))
theorem i_sfld {f : Str} (q : tb σ H fun y H1 => ta σ H1 fun x H2 => rSFld K f y x H2 (D.nx σ)) : sFld K ta tb f D σ H := q
def rPp (C : Addr) (sp : Sp) : V → Hp → VK → Prop := fun x H1 Q => ∃ a dx fs, x = .ref a ∧ H1 a = some (.ins C dx fs) ∧ sp [.ref a] H1 Q E0
theorem i_pp (q : ta σ H fun x H1 => rPp C sp x H1 Q) : tProp C sp [] E0 ta σ H Q := q
def rMeth (C : Addr) (m : Str) (σ : L2.St) (t : TA) (sp : Sp) : V → Hp → VK → Prop := fun x H1 Q => ∃ a dx fs, x = .ref a ∧ H1 a = some (.ins C dx fs) ∧ fs.lookup m = none ∧ t σ H1 fun vs H2 => sp (x :: vs) H2 Q E0
theorem i_meth (q : ta σ H fun x H1 => rMeth C m σ t sp x H1 Q) : tMeth C m sp [] E0 ta t σ H Q := by
  have e : (fun (x : V) (H1 : Hp) => rMeth C m σ t sp x H1 Q) = fun x H1 => ∃ a dx fs, x = .ref a ∧ H1 a = some (.ins C dx fs) ∧ fs.lookup m = none ∧ t σ H1 fun vs H2 => sp (x :: (vs ++ [])) H2 Q E0 := by
    funext x H1
    simp only [rMeth, List.append_nil]
  rw [e] at q
  exact q
theorem i_smeth (q : t σ H fun vs H2 => sp vs H2 Q E0) : tSMeth C sp [] (tC (.ref C)) t σ H Q := by
  refine ⟨rfl, ?_⟩
  simpa only [List.append_nil] using q
def rMake (C : Addr) (sp : Sp) (dvs : List V) : List V → Hp → VK → Prop := fun vs H1 Q => ∀ x dx, H1 x = none → H1 dx = none → dx ≠ x → sp (.ref x :: (vs ++ dvs)) (upd (upd H1 dx (.own x)) x (.ins C dx [])) (fun v H2 => v = .non ∧ Q (.ref x) H2) E0
theorem i_make {dvs : List V} (q : t σ H fun vs H1 => rMake C sp dvs vs H1 Q) : tMake C sp dvs E0 t σ H Q := q
theorem i_par {n k : Nat} {v w : V} (q : D.nx ((σ.set n (some v)).set k (some w)) H) : (∃ a b, [v, w] = [a, b] ∧ D.nx ((σ.set n (some a)).set k (some b)) H) := ⟨v, w, rfl, q⟩
def rPar (n k : Nat) (σ : L2.St) (nx : L2.St → Hp → Prop) : List V → Hp → Prop := fun vs H1 => ∃ v w, vs = [v, w] ∧ nx ((σ.set n (some v)).set k (some w)) H1
theorem i_tpar {n k : Nat} (q : t σ H fun vs H1 => rPar n k σ D.nx vs H1) : tPar n k t D σ H := q
theorem i_rpar {n k : Nat} {nx : L2.St → Hp → Prop} {v w : V} (q : nx ((σ.set n (some v)).set k (some w)) H) : rPar n k σ nx [v, w] H := ⟨v, w, rfl, q⟩
theorem i_isi {T n : String} {b : Bool} (ty : TyX K H x (.type T)) (k : kitB T n = some b) (q : Q (.bl b) H) : rIsi K [x, .ty n] H Q := ⟨x, .ty n, .type T, .type n, b, rfl, .ty n, ty, kit_ty k, q⟩
theorem i_isiO {tv : Value} {b : Bool} (ty : TyX K H x tv) (k : PySem.W.kitOne K tv (.ref C) = some b) (q : Q (.bl b) H) : rIsi K [x, .ref C] H Q := ⟨x, .ref C, tv, .ref C, b, rfl, .own C, ty, k, q⟩
end
/-- // by a divisor of either sign, below 2 ^ 9000 -/
def CDivX (_ j : Int) : Prop := j ≠ 0 ∧ j.natAbs.log2 < 9000
theorem op_fdivX {X : Cx} : OpR X (binaryOp .FloorDiv) (rI CDivX fun i j => .int (i.fdiv j)) := opI fun _ _ _ _ _ _ _ hc q => floordiv_int hc.1 q (.inl (PyProof.noPylong_of_log2 hc.2))
theorem cdivx {i j : Int} (h : j ≠ 0) {b : Nat} (hb : j.natAbs < 2 ^ b) (h0 : 0 < b) (h9 : b ≤ 9000) : CDivX i j := ⟨h, Nat.lt_of_lt_of_le (PySem.Flt.log2_lt_of h0 hb) h9⟩

/-! ### Ratios in the heap -/
def flds (t b : Int) : List (Str × V) := [("_top", .int t), ("_bottom", .int b)]
def RatAt (C : Addr) (H : Hp) (a : Addr) (t b : Int) : Prop := ∃ dx, H a = some (.ins C dx (flds t b))
theorem RatAt.same {C : Addr} {H H' : Hp} {a : Addr} {t b : Int} (s : Same H H') (r : RatAt C H a t b) : RatAt C H' a t b := by
  obtain ⟨dx, e⟩ := r
  exact ⟨dx, s _ _ e⟩
/-- a number: an int, or a Ratio -/
def Num (C : Addr) (H : Hp) (v : V) (t b : Int) : Prop := (v = .int t ∧ b = 1) ∨ ∃ a, v = .ref a ∧ RatAt C H a t b
theorem Num.same {C : Addr} {H H' : Hp} {v : V} {t b : Int} (s : Same H H') (r : Num C H v t b) : Num C H' v t b := by
  rcases r with r | ⟨a, e, r⟩
  · exact .inl r
  · exact .inr ⟨a, e, r.same s⟩
theorem bot_top : ¬ (("_bottom" : Str) = "_top") := by decide +kernel
theorem flds_top (t b : Int) : (flds t b).lookup ("_top" : Str) = some (.int t) := by
  unfold flds
  simp [List.lookup]
theorem flds_bot (t b : Int) : (flds t b).lookup ("_bottom" : Str) = some (.int b) := by
  have e : (("_bottom" : Str) == ("_top" : Str)) = false := by simpa using bot_top
  unfold flds
  simp [List.lookup, e]
theorem flds_no (t b : Int) {m : Str} (h1 : ¬ m = "_top") (h2 : ¬ m = "_bottom") : (flds t b).lookup m = none := by
  have e1 : (m == ("_top" : Str)) = false := by simpa using h1
  have e2 : (m == ("_bottom" : Str)) = false := by simpa using h2
  unfold flds
  simp [List.lookup, e1, e2]
theorem put_flds (t b : Int) : putF "_bottom" (.int b) (putF "_top" (.int t) []) = flds t b := by
  show (if ("_top" : Str) = "_bottom" then _ else (("_top" : Str), V.int t) :: putF "_bottom" (.int b) []) = flds t b
  rw [if_neg (fun z => bot_top z.symm)]
  rfl
section
variable {C a : Addr} {H : Hp} {Q : VK} {K : PySem.W.Frag} {t b : Int} {v : V}
theorem i_rtop (r : RatAt C H a t b) (c : Cls K C) (n : NoAttr K C "_top") (q : Q (.int t) H) : rFld K "_top" (.ref a) H Q := by
  obtain ⟨dx, e⟩ := r
  exact ⟨a, C, dx, _, _, rfl, e, c, n, flds_top t b, q⟩
theorem i_rbot (r : RatAt C H a t b) (c : Cls K C) (n : NoAttr K C "_bottom") (q : Q (.int b) H) : rFld K "_bottom" (.ref a) H Q := by
  obtain ⟨dx, e⟩ := r
  exact ⟨a, C, dx, _, _, rfl, e, c, n, flds_bot t b, q⟩
theorem i_rpp {sp : Sp} (r : RatAt C H a t b) (q : sp [.ref a] H Q E0) : rPp C sp (.ref a) H Q := by
  obtain ⟨dx, e⟩ := r
  exact ⟨a, dx, _, rfl, e, q⟩
theorem i_rmeth {m : Str} {σ : L2.St} {tt : TA} {sp : Sp} (r : RatAt C H a t b) (h1 : ¬ m = "_top") (h2 : ¬ m = "_bottom") (q : tt σ H fun vs H2 => sp (.ref a :: vs) H2 Q E0) : rMeth C m σ tt sp (.ref a) H Q := by
  obtain ⟨dx, e⟩ := r
  exact ⟨a, dx, _, rfl, e, flds_no t b h1 h2, q⟩
/-- what Ratio's constructor promises -/
def spInit (C : Addr) : Sp := fun vs H Q _ => ∃ (x dx : Addr) (t b : Int), vs = [.ref x, .int t, .int b] ∧ H x = some (.ins C dx []) ∧ b ≠ 0 ∧ t.natAbs < 2 ^ 8900 ∧ b.natAbs < 2 ^ 8900 ∧
  ∀ H', H' x = some (.ins C dx (flds (Nu t b) (De t b))) → (∀ c o, c ≠ x → H c = some o → H' c = some o) → Q .non H'
theorem i_mk2 {t b : Int} (hb : b ≠ 0) (z1 : t.natAbs < 2 ^ 8900) (z2 : b.natAbs < 2 ^ 8900) (q : ∀ x H', H x = none → Same H H' → RatAt C H' x (Nu t b) (De t b) → Q (.ref x) H') : rMake C (spInit C) [] [.int t, .int b] H Q := by
  intro x dx nx nd ne
  refine ⟨x, dx, t, b, rfl, upd_same, hb, z1, z2, fun H' h1 h2 => ⟨rfl, ?_⟩⟩
  refine q x H' nx (fun c o e => h2 c o (ne_of_none e nx) ?_) ⟨dx, h1⟩
  rw [upd_ne (ne_of_none e nx), upd_ne (ne_of_none e nd)]
  exact e
theorem i_mk1 {t : Int} (z1 : t.natAbs < 2 ^ 8900) (q : ∀ x H', H x = none → Same H H' → RatAt C H' x t 1 → Q (.ref x) H') : rMake C (spInit C) [.int 1] [.int t] H Q := by
  intro x dx nx nd ne
  refine ⟨x, dx, t, 1, rfl, upd_same, by decide, z1, Nat.one_lt_two_pow (by decide), fun H' h1 h2 => ⟨rfl, ?_⟩⟩
  rw [(lo_int t).nu, (lo_int t).de] at h1
  refine q x H' nx (fun c o e => h2 c o (ne_of_none e nx) ?_) ⟨dx, h1⟩
  rw [upd_ne (ne_of_none e nx), upd_ne (ne_of_none e nd)]
  exact e
end

/-! ### sizes -/
def Sz (n : Nat) (x : Int) : Prop := x.natAbs < 2 ^ n
theorem sz_mono {n m : Nat} {x : Int} (h : Sz n x) (k : n ≤ m) : Sz m x := Nat.lt_of_lt_of_le h (Nat.pow_le_pow_right (by decide) k)
theorem sz_le {n : Nat} {x y : Int} (h : Sz n x) (k : y.natAbs ≤ x.natAbs) : Sz n y := Nat.lt_of_le_of_lt k h
theorem sz_mul {n m : Nat} {x y : Int} (h : Sz n x) (k : Sz m y) : Sz (n + m) (x * y) := wide_lt h k
theorem sz_add {n : Nat} {x y : Int} (h : Sz n x) (k : Sz n y) : Sz (n + 1) (x + y) := by
  unfold Sz at *
  rw [Nat.pow_succ]
  omega
theorem sz_sub {n : Nat} {x y : Int} (h : Sz n x) (k : Sz n y) : Sz (n + 1) (x - y) := by
  unfold Sz at *
  rw [Nat.pow_succ]
  omega
theorem sz_neg {n : Nat} {x : Int} (h : Sz n x) : Sz n (-x) := by
  unfold Sz at *
  omega
theorem sz_nu {n : Nat} {t b : Int} (hb : b ≠ 0) (h : Sz n t) : Sz n (Nu t b) := sz_le h (nu_le t b hb)
theorem sz_de {n : Nat} {t b : Int} (hb : b ≠ 0) (h : Sz n b) : Sz n (De t b) := sz_le h (de_le t b hb)
theorem cmul_sz {n m : Nat} {x y : Int} (h : Sz n x) (k : Sz m y) (h0 : 0 < n := by decide) (h1 : 0 < m := by decide) (h2 : n + m ≤ 1000000 := by decide) : CMulW x y := wide_mul h k h0 h1 h2
theorem cdivx_sz {n : Nat} {x y : Int} (h : y ≠ 0) (k : Sz n y) (h0 : 0 < n := by decide) (h9 : n ≤ 9000 := by decide) : CDivX x y := cdivx h k h0 h9
theorem sz_1 {n : Nat} (h : 0 < n := by decide) : Sz n 1 := Nat.one_lt_two_pow (by omega)
theorem sz_ediv {n : Nat} {x y : Int} (h : Sz n x) : Sz n (x / y) := sz_le h (Int.natAbs_ediv_le_natAbs ..)

/-! ### promises of Ratio's methods -/
section
variable {H : Hp} {Q : VK} {E : XK} {C : Addr} {i : Int}
def spIsInt : Sp := fun vs H Q _ => ∃ i : Int, vs = [.int i] ∧ Q (.bl true) H
theorem i_isint (q : Q (.bl true) H) : spIsInt [.int i] H Q E := ⟨i, rfl, q⟩
def spOf (C : Addr) : Sp := fun vs H Q _ => ∃ (v : V) (t b : Int), vs = [v] ∧ Num C H v t b ∧ Sz 4000 t ∧ ∀ r H', Same H H' → RatAt C H' r t b → Q (.ref r) H'
theorem i_of {v : V} {t b : Int} (n : Num C H v t b) (z : Sz 4000 t) (q : ∀ r H', Same H H' → RatAt C H' r t b → Q (.ref r) H') : spOf C [v] H Q E := ⟨v, t, b, rfl, n, z, q⟩
def spTop (C : Addr) : Sp := fun vs H Q _ => ∃ (x : Addr) (t b : Int), vs = [.ref x] ∧ RatAt C H x t b ∧ Q (.int t) H
theorem i_top {x : Addr} {t b : Int} (r : RatAt C H x t b) (q : Q (.int t) H) : spTop C [.ref x] H Q E := ⟨x, t, b, rfl, r, q⟩
def spBot (C : Addr) : Sp := fun vs H Q _ => ∃ (x : Addr) (t b : Int), vs = [.ref x] ∧ RatAt C H x t b ∧ Q (.int b) H
theorem i_bot {x : Addr} {t b : Int} (r : RatAt C H x t b) (q : Q (.int b) H) : spBot C [.ref x] H Q E := ⟨x, t, b, rfl, r, q⟩
/-- a number as the methods want it -/
structure Ok4 (t b : Int) : Prop where
  lo : Lo t b
  zt : Sz 4000 t
  zb : Sz 4000 b
/-- one op other, both numbers: a new Ratio -/
def spBin (C : Addr) (nu de : Int → Int → Int → Int → Int) : Sp := fun vs H Q _ => ∃ (x : Addr) (v : V) (t b t2 b2 : Int), vs = [.ref x, v] ∧ RatAt C H x t b ∧ Ok4 t b ∧ Num C H v t2 b2 ∧ Ok4 t2 b2 ∧
  ∀ r H', H r = none → Same H H' → RatAt C H' r (Nu (nu t b t2 b2) (de t b t2 b2)) (De (nu t b t2 b2) (de t b t2 b2)) → Q (.ref r) H'
theorem i_bin {nu de : Int → Int → Int → Int → Int} {x : Addr} {v : V} {t b t2 b2 : Int} (h1 : RatAt C H x t b) (h2 : Ok4 t b) (h3 : Num C H v t2 b2) (h4 : Ok4 t2 b2)
    (q : ∀ r H', H r = none → Same H H' → RatAt C H' r (Nu (nu t b t2 b2) (de t b t2 b2)) (De (nu t b t2 b2) (de t b t2 b2)) → Q (.ref r) H') : spBin C nu de [.ref x, v] H Q E := ⟨x, v, t, b, t2, b2, rfl, h1, h2, h3, h4, q⟩
/-- the reflected one: the other side an int -/
def spRev (C : Addr) (nu de : Int → Int → Int → Int → Int) : Sp := fun vs H Q _ => ∃ (x : Addr) (i t b : Int), vs = [.ref x, .int i] ∧ RatAt C H x t b ∧ Ok4 t b ∧ Sz 4000 i ∧
  ∀ r H', H r = none → Same H H' → RatAt C H' r (Nu (nu i 1 t b) (de i 1 t b)) (De (nu i 1 t b) (de i 1 t b)) → Q (.ref r) H'
theorem i_rev {nu de : Int → Int → Int → Int → Int} {x : Addr} {i t b : Int} (h1 : RatAt C H x t b) (h2 : Ok4 t b) (h3 : Sz 4000 i)
    (q : ∀ r H', H r = none → Same H H' → RatAt C H' r (Nu (nu i 1 t b) (de i 1 t b)) (De (nu i 1 t b) (de i 1 t b)) → Q (.ref r) H') : spRev C nu de [.ref x, .int i] H Q E := ⟨x, i, t, b, rfl, h1, h2, h3, q⟩
end
/-- one number: a new Ratio of another top -/
def spUn (C : Addr) (f : Int → Int) : Sp := fun vs H Q _ => ∃ (x : Addr) (t b : Int), vs = [.ref x] ∧ RatAt C H x t b ∧ Ok4 t b ∧ ∀ r H', H r = none → Same H H' → RatAt C H' r (Nu (f t) b) (De (f t) b) → Q (.ref r) H'
def spInt (C : Addr) (f : Int → Int → Int) : Sp := fun vs H Q _ => ∃ (x : Addr) (t b : Int), vs = [.ref x] ∧ RatAt C H x t b ∧ 0 < b ∧ Sz 8900 b ∧ Q (.int (f t b)) H
def cmpI (t b t2 b2 : Int) : Int := if t * b2 < t2 * b then -1 else if t2 * b < t * b2 then 1 else 0
def spCmp (C : Addr) : Sp := fun vs H Q _ => ∃ (x : Addr) (v : V) (t b t2 b2 : Int), vs = [.ref x, v] ∧ RatAt C H x t b ∧ Ok4 t b ∧ Num C H v t2 b2 ∧ Ok4 t2 b2 ∧ ∀ H', Same H H' → Q (.int (cmpI t b t2 b2)) H'
theorem sz_absI {n : Nat} {t : Int} (z : Sz n t) : Sz n (if t < 0 then -t else t) := by
  unfold Sz at *
  split <;> omega
def aN (t b t2 b2 : Int) : Int := t * b2 + t2 * b
def sN (t b t2 b2 : Int) : Int := t * b2 - t2 * b
def mN (t _ t2 _ : Int) : Int := t * t2
def dD (_ b _ b2 : Int) : Int := b * b2
def oN (t _ _ b2 : Int) : Int := t * b2
def oD (_ b t2 _ : Int) : Int := b * t2
theorem ok_int {i : Int} (z : Sz 4000 i) : Ok4 i 1 := ⟨lo_int i, z, sz_1⟩
def spOver (C : Addr) : Sp := fun vs H Q _ => ∃ (x : Addr) (v : V) (t b t2 b2 : Int), vs = [.ref x, v] ∧ RatAt C H x t b ∧ Ok4 t b ∧ Num C H v t2 b2 ∧ Ok4 t2 b2 ∧ t2 ≠ 0 ∧
  ∀ r H', H r = none → Same H H' → RatAt C H' r (Nu (oN t b t2 b2) (oD t b t2 b2)) (De (oN t b t2 b2) (oD t b t2 b2)) → Q (.ref r) H'
end Ly

namespace Ly
open PySem PySem.Spec PyProof.Rows L2
/-! ### an operator by a method of the class, from either side -/
section
variable {X : Cx} {k j : Nat} {C : Addr} {x m : Str} {sp spR : Sp} {op : Operator}
theorem opm2 (h : Mt ⟨X.prog, X.w, X.K, X.mg, X.base⟩ k C m sp) (o : OwnC X.K X.mg x C) (hr : Room j X.A) (hk : k ≤ j) (e : PySem.dunder op.info.2 = m) : OpR X (binaryOp op) (rOwn2 C sp) := by
  subst e
  obtain ⟨f, fd, ps, hm, F, b⟩ := h.ex
  exact op_own2 F (hr.mono hk) b hm.at_ hm.fn o.sf
theorem opmI (h : Mt ⟨X.prog, X.w, X.K, X.mg, X.base⟩ k C m sp) (o : OwnC X.K X.mg x C) (hr : Room j X.A) (hk : k ≤ j) (e : PySem.dunder op.info.2 = m) {rc : Option Value} (hrc : PySem.W.findIn X.K (.ref C) (dunderR op.info.2) = some rc) (hp : rc = none ∨ ∃ g : Addr, rc = some (.ref g))
    {fo ro : Option Value} (h1 : PySem.W.findIn X.K (.type "int") (PySem.dunder op.info.2) = some fo) (h2 : PySem.W.findIn X.K (.type "int") (dunderR op.info.2) = some ro) : OpR X (binaryOp op) (rOwnI C sp) := by
  subst e
  obtain ⟨f, fd, ps, hm, F, b⟩ := h.ex
  exact op_ownI F (hr.mono hk) b hm.at_ hm.fn o.sf hrc hp h1 h2 o.sI
theorem opIm {id : String} {B : Builtin} (io : IntOp op.info.2 id B) (h : Mt ⟨X.prog, X.w, X.K, X.mg, X.base⟩ k C m spR) (o : OwnC X.K X.mg x C) (hr : Room j X.A) (hk : k ≤ j) (e : dunderR op.info.2 = m) {g : Addr} (hl : PySem.W.findIn X.K (.ref C) (PySem.dunder op.info.2) = some (some (.ref g)))
    {fo ro : Option Value} (h1 : PySem.W.findIn X.K (.type "int") (PySem.dunder op.info.2) = some fo) (h2 : PySem.W.findIn X.K (.type "int") (dunderR op.info.2) = some ro) (h12 : ((fo.isSome && !isSeqSlot fo) || (ro.isSome && !isSeqSlot ro)) = true) : OpR X (binaryOp op) (rIOwn C spR) := by
  subst e
  obtain ⟨f, fd, ps, hm, F, b⟩ := h.ex
  exact op_Iown io F (hr.mono hk) b hm.at_ hm.fn o.sf hl h1 h2 h12 o.sI'
def rNumOp (C : Addr) (sp spR : Sp) : R2 := rOr (rOwn2 C sp) (rOr (rOwnI C sp) (rIOwn C spR))
/-- from both methods -/
theorem op_num {id : String} {B : Builtin} {k' : Nat} {m' : Str} (io : IntOp op.info.2 id B) (h : Mt ⟨X.prog, X.w, X.K, X.mg, X.base⟩ k C m sp) (h' : Mt ⟨X.prog, X.w, X.K, X.mg, X.base⟩ k' C m' spR) (o : OwnC X.K X.mg x C) (hr : Room j X.A) (hk : k ≤ j) (hk' : k' ≤ j) (e : PySem.dunder op.info.2 = m) (e' : dunderR op.info.2 = m')
    {fo ro : Option Value} (h1 : PySem.W.findIn X.K (.type "int") (PySem.dunder op.info.2) = some fo) (h2 : PySem.W.findIn X.K (.type "int") (dunderR op.info.2) = some ro) (h12 : ((fo.isSome && !isSeqSlot fo) || (ro.isSome && !isSeqSlot ro)) = true) : OpR X (binaryOp op) (rNumOp C sp spR) := by
  obtain ⟨f, fd, ps, hm, F, b⟩ := _root_.id h.ex
  obtain ⟨f', fd', ps', hm', F', b'⟩ := _root_.id h'.ex
  refine opr_or (opm2 h o hr hk e) (opr_or (opmI h o hr hk e (rc := some (.ref f')) ?_ (.inr ⟨f', rfl⟩) h1 h2) (opIm io h' o hr hk' e' (g := f) ?_ h1 h2 h12))
  · rw [e']
    exact hm'.at_
  · rw [e]
    exact hm.at_
end
theorem op_addN {X : Cx} {C : Addr} {x : Str} {k k' j : Nat} {sp spR : Sp} (h : Mt ⟨X.prog, X.w, X.K, X.mg, X.base⟩ k C "__add__" sp) (h' : Mt ⟨X.prog, X.w, X.K, X.mg, X.base⟩ k' C "__radd__" spR) (o : OwnC X.K X.mg x C) (hr : Room j X.A) (hk : k ≤ j) (hk' : k' ≤ j) : OpR X (binaryOp .Add) (rNumOp C sp spR) :=
  op_num (op := .Add) io_add h h' o hr hk hk' (by decide +kernel) (by decide +kernel) (fo := some (.builtin "int.__add__")) (ro := some (.builtin "int.__radd__")) (by with_unfolding_all rfl) (by with_unfolding_all rfl) (by decide +kernel)
theorem op_subN {X : Cx} {C : Addr} {x : Str} {k k' j : Nat} {sp spR : Sp} (h : Mt ⟨X.prog, X.w, X.K, X.mg, X.base⟩ k C "__sub__" sp) (h' : Mt ⟨X.prog, X.w, X.K, X.mg, X.base⟩ k' C "__rsub__" spR) (o : OwnC X.K X.mg x C) (hr : Room j X.A) (hk : k ≤ j) (hk' : k' ≤ j) : OpR X (binaryOp .Sub) (rNumOp C sp spR) :=
  op_num (op := .Sub) io_sub h h' o hr hk hk' (by decide +kernel) (by decide +kernel) (fo := some (.builtin "int.__sub__")) (ro := some (.builtin "int.__rsub__")) (by with_unfolding_all rfl) (by with_unfolding_all rfl) (by decide +kernel)
theorem op_mulN {X : Cx} {C : Addr} {x : Str} {k k' j : Nat} {sp spR : Sp} (h : Mt ⟨X.prog, X.w, X.K, X.mg, X.base⟩ k C "__mul__" sp) (h' : Mt ⟨X.prog, X.w, X.K, X.mg, X.base⟩ k' C "__rmul__" spR) (o : OwnC X.K X.mg x C) (hr : Room j X.A) (hk : k ≤ j) (hk' : k' ≤ j) : OpR X (binaryOp .Mult) (rNumOp C sp spR) :=
  op_num (op := .Mult) io_mul h h' o hr hk hk' (by decide +kernel) (by decide +kernel) (fo := some (.builtin "int.__mul__")) (ro := some (.builtin "int.__rmul__")) (by with_unfolding_all rfl) (by with_unfolding_all rfl) (by decide +kernel)
theorem op_fdN {X : Cx} {C : Addr} {x : Str} {k k' j : Nat} {sp spR : Sp} (h : Mt ⟨X.prog, X.w, X.K, X.mg, X.base⟩ k C "__floordiv__" sp) (h' : Mt ⟨X.prog, X.w, X.K, X.mg, X.base⟩ k' C "__rfloordiv__" spR) (o : OwnC X.K X.mg x C) (hr : Room j X.A) (hk : k ≤ j) (hk' : k' ≤ j) : OpR X (binaryOp .FloorDiv) (rNumOp C sp spR) :=
  op_num (op := .FloorDiv) io_fd h h' o hr hk hk' (by decide +kernel) (by decide +kernel) (fo := some (.builtin "int.__floordiv__")) (ro := some (.builtin "int.__rfloordiv__")) (by with_unfolding_all rfl) (by with_unfolding_all rfl) (by decide +kernel)
theorem op_mdN {X : Cx} {C : Addr} {x : Str} {k k' j : Nat} {sp spR : Sp} (h : Mt ⟨X.prog, X.w, X.K, X.mg, X.base⟩ k C "__mod__" sp) (h' : Mt ⟨X.prog, X.w, X.K, X.mg, X.base⟩ k' C "__rmod__" spR) (o : OwnC X.K X.mg x C) (hr : Room j X.A) (hk : k ≤ j) (hk' : k' ≤ j) : OpR X (binaryOp .Mod) (rNumOp C sp spR) :=
  op_num (op := .Mod) io_mod h h' o hr hk hk' (by decide +kernel) (by decide +kernel) (fo := some (.builtin "int.__mod__")) (ro := some (.builtin "int.__rmod__")) (by with_unfolding_all rfl) (by with_unfolding_all rfl) (by decide +kernel)

/-! ### promises with a condition and any end -/
abbrev Q4 := Int → Int → Int → Int → Prop
abbrev P4 := Int → Int → Int → Int → Hp → VK → Prop
def spBinG (C : Addr) (pre : Q4) (post : P4) : Sp := fun vs H Q _ => ∃ (x : Addr) (v : V) (t b t2 b2 : Int), vs = [.ref x, v] ∧ RatAt C H x t b ∧ Ok4 t b ∧ Num C H v t2 b2 ∧ Ok4 t2 b2 ∧ pre t b t2 b2 ∧ post t b t2 b2 H Q
def spRevG (C : Addr) (pre : Q4) (post : P4) : Sp := fun vs H Q _ => ∃ (x : Addr) (i t b : Int), vs = [.ref x, .int i] ∧ RatAt C H x t b ∧ Ok4 t b ∧ Sz 4000 i ∧ pre i 1 t b ∧ post i 1 t b H Q
/-- a new Ratio | an int -/
def pR (C : Addr) (nu de : Int → Int → Int → Int → Int) : P4 := fun t b t2 b2 H Q => ∀ r H', H r = none → Same H H' → RatAt C H' r (Nu (nu t b t2 b2) (de t b t2 b2)) (De (nu t b t2 b2) (de t b t2 b2)) → Q (.ref r) H'
def pI (f : Int → Int → Int → Int → Int) : P4 := fun t b t2 b2 H Q => ∀ H', Same H H' → Q (.int (f t b t2 b2)) H'
section
variable {H : Hp} {Q : VK} {E : XK} {C : Addr} {x y : V} {t b t2 b2 : Int}
theorem Num.ok (n : Num C H x t b) (z : Sz 4000 t) (h : ∀ a, x = .ref a → Ok4 t b) : Ok4 t b := by
  rcases n with ⟨e, rfl⟩ | ⟨a, e, r⟩
  · exact ok_int z
  · exact h a e
theorem i_numG {pre : Q4} {post : P4} (hx : Num C H x t b) (hy : Num C H y t2 b2) (o : Ok4 t b) (o2 : Ok4 t2 b2) (h : (∃ a, x = .ref a) ∨ ∃ a, y = .ref a) (p : pre t b t2 b2) (q : post t b t2 b2 H Q) : rNumOp C (spBinG C pre post) (spRevG C pre post) x y H Q := by
  rcases hx with ⟨rfl, rfl⟩ | ⟨a, rfl, ra⟩
  · rcases hy with ⟨rfl, rfl⟩ | ⟨c, rfl, rc⟩
    · rcases h with ⟨_, z⟩ | ⟨_, z⟩ <;> cases z
    · obtain ⟨dx, e⟩ := id rc
      exact .inr (.inr ⟨c, t, dx, _, rfl, rfl, e, c, t, t2, b2, rfl, rc, o2, o.zt, p, q⟩)
  · obtain ⟨dx, e⟩ := id ra
    rcases id hy with ⟨rfl, rfl⟩ | ⟨c, rfl, rc⟩
    · exact .inr (.inl ⟨a, t2, dx, _, rfl, rfl, e, a, .int t2, t, b, t2, 1, rfl, ra, o, hy, o2, p, q⟩)
    · obtain ⟨dy, e'⟩ := id rc
      exact .inl ⟨a, c, dx, dy, _, _, rfl, rfl, e, e', a, .ref c, t, b, t2, b2, rfl, ra, o, hy, o2, p, q⟩
theorem i_num {nu de : Int → Int → Int → Int → Int} (hx : Num C H x t b) (hy : Num C H y t2 b2) (o : Ok4 t b) (o2 : Ok4 t2 b2) (h : (∃ a, x = .ref a) ∨ ∃ a, y = .ref a) (q : pR C nu de t b t2 b2 H Q) : rNumOp C (spBin C nu de) (spRev C nu de) x y H Q := by
  rcases hx with ⟨rfl, rfl⟩ | ⟨a, rfl, ra⟩
  · rcases hy with ⟨rfl, rfl⟩ | ⟨c, rfl, rc⟩
    · rcases h with ⟨_, z⟩ | ⟨_, z⟩ <;> cases z
    · obtain ⟨dx, e⟩ := id rc
      exact .inr (.inr ⟨c, t, dx, _, rfl, rfl, e, c, t, t2, b2, rfl, rc, o2, o.zt, q⟩)
  · obtain ⟨dx, e⟩ := id ra
    rcases id hy with ⟨rfl, rfl⟩ | ⟨c, rfl, rc⟩
    · exact .inr (.inl ⟨a, t2, dx, _, rfl, rfl, e, a, .int t2, t, b, t2, 1, rfl, ra, o, hy, o2, q⟩)
    · obtain ⟨dy, e'⟩ := id rc
      exact .inl ⟨a, c, dx, dy, _, _, rfl, rfl, e, e', a, .ref c, t, b, t2, b2, rfl, ra, o, hy, o2, q⟩
theorem RatAt.num {a : Addr} (r : RatAt C H a t b) : Num C H (.ref a) t b := .inr ⟨a, rfl, r⟩
theorem num_int (i : Int) : Num C H (.int i) i 1 := .inl ⟨rfl, rfl⟩
/-- two Ratios -/
theorem i_own2 {nu de : Int → Int → Int → Int → Int} {a c : Addr} (ra : RatAt C H a t b) (rc : RatAt C H c t2 b2) (o : Ok4 t b) (o2 : Ok4 t2 b2) (q : pR C nu de t b t2 b2 H Q) : rOwn2 C (spBin C nu de) (.ref a) (.ref c) H Q := by
  obtain ⟨dx, e⟩ := id ra
  obtain ⟨dy, e'⟩ := id rc
  exact ⟨a, c, dx, dy, _, _, rfl, rfl, e, e', a, .ref c, t, b, t2, b2, rfl, ra, o, rc.num, o2, q⟩
theorem i_own2G {pre : Q4} {post : P4} {a c : Addr} (ra : RatAt C H a t b) (rc : RatAt C H c t2 b2) (o : Ok4 t b) (o2 : Ok4 t2 b2) (p : pre t b t2 b2) (q : post t b t2 b2 H Q) : rOwn2 C (spBinG C pre post) (.ref a) (.ref c) H Q := by
  obtain ⟨dx, e⟩ := id ra
  obtain ⟨dy, e'⟩ := id rc
  exact ⟨a, c, dx, dy, _, _, rfl, rfl, e, e', a, .ref c, t, b, t2, b2, rfl, ra, o, rc.num, o2, p, q⟩
theorem pR_same {nu de : Int → Int → Int → Int → Int} {H' : Hp} (s : Same H H') (q : pR C nu de t b t2 b2 H Q) : pR C nu de t b t2 b2 H' Q := fun r H2 n s2 hr => q r H2 (s.free n) (s.trans s2) hr
theorem pI_same {f : Int → Int → Int → Int → Int} {H' : Hp} (s : Same H H') (q : pI f t b t2 b2 H Q) : pI f t b t2 b2 H' Q := fun H2 s2 => q H2 (s.trans s2)
end
/-- the floor of the quotient -/
def fQ (t b t2 b2 : Int) : Int := Nu (oN t b t2 b2) (oD t b t2 b2) / De (oN t b t2 b2) (oD t b t2 b2)
def nz4 : Q4 := fun _ _ t2 _ => t2 ≠ 0
/-- the condition of % -/
def pM : Q4 := fun t b t2 b2 => t2 ≠ 0 ∧ Sz 1300 t ∧ Sz 1300 b ∧ Sz 1300 t2 ∧ Sz 1300 b2
/-- the rest: t/b less fQ times t2/b2 -/
def rT (t b t2 b2 : Int) : Int := Nu (mN (fQ t b t2 b2) 1 t2 b2) (dD (fQ t b t2 b2) 1 t2 b2)
def rB (t b t2 b2 : Int) : Int := De (mN (fQ t b t2 b2) 1 t2 b2) (dD (fQ t b t2 b2) 1 t2 b2)
def rN (t b t2 b2 : Int) : Int := sN t b (rT t b t2 b2) (rB t b t2 b2)
def rD (t b t2 b2 : Int) : Int := dD t b (rT t b t2 b2) (rB t b t2 b2)

/-! ### texts of numbers -/
def It (i : Int) : Str := Str.ofString (toString i)
theorem it_len {i : Int} (h : Sz 1900 i) : (It i).length ≤ 2000 := by
  have h2 : i.natAbs.log2 < 1920 := Nat.lt_of_lt_of_le (PySem.Flt.log2_lt_of (by decide) h) (by decide)
  have e := int_text_length_le (k := 1920) (by decide) h2
  unfold It
  rw [PySem.ofString_length]
  omega
theorem it_log {i : Int} (h : Sz 1900 i) : i.natAbs.log2 < 1920 := Nat.lt_of_lt_of_le (PySem.Flt.log2_lt_of (by decide) h) (by decide)
theorem sl_of {n : Nat} (h : n ≤ 100000) : n ≤ sizeLine := Nat.le_trans h (by decide)
theorem app_len (x y : Str) : (x ++ y).length = x.length + y.length := by
  show (x.cps ++ y.cps).size = _
  rw [Array.size_append]
  rfl
theorem emp_app (x : Str) : Str.empty ++ x = x := by
  show (⟨#[] ++ x.cps⟩ : Str) = x
  rw [Array.empty_append]
theorem app_assoc (x y z : Str) : x ++ y ++ z = x ++ (y ++ z) := by
  show (⟨x.cps ++ y.cps ++ z.cps⟩ : Str) = ⟨x.cps ++ (y.cps ++ z.cps)⟩
  rw [Array.append_assoc]
/-- str of a Ratio, repr of one -/
def Rt (t b : Int) : Str := if b = 1 then It t else It t ++ ("/" : Str) ++ It b
def Rp (t b : Int) : Str := ("Ratio(" : Str) ++ It t ++ (", " : Str) ++ It b ++ (")" : Str)
section
variable {H : Hp} {Q : VK} {E : XK} {C : Addr} {σ : L2.St} {ta : TE}
def rFmt : V → Hp → VK → Prop := fun x H1 Q => (∃ y : Str, x = .str y ∧ y.length ≤ sizeLine ∧ Q (.str y) H1) ∨ ∃ i : Int, x = .int i ∧ i.natAbs.log2 < 1920 ∧ Q (.str (toString i)) H1
theorem i_fmt (q : ta σ H fun x H1 => rFmt x H1 Q) : tFmt ta σ H Q := q
theorem i_fmt_i {i : Int} (h : Sz 1900 i) (q : Q (.str (It i)) H) : rFmt (.int i) H Q := .inr ⟨i, rfl, it_log h, q⟩
theorem i_js0 {acc : Str} {Q : Str → Hp → Prop} (q : Q acc H) : tJs [] acc σ H Q := q
theorem i_js {t : TE} {ts : List TE} {acc : Str} {Q : Str → Hp → Prop} (q : t σ H fun x H1 => ∃ y : Str, x = .str y ∧ (acc ++ y).length ≤ sizeLine ∧ tJs ts (acc ++ y) σ H1 Q) : tJs (t :: ts) acc σ H Q := q
def spTxt (C : Addr) (f : Int → Int → Str) : Sp := fun vs H Q _ => ∃ (x : Addr) (t b : Int), vs = [.ref x] ∧ RatAt C H x t b ∧ Sz 1900 t ∧ Sz 1900 b ∧ Q (.str (f t b)) H
def rStr1 : List V → Hp → VK → Prop := fun xs H Q => ∃ i, xs = [.int i] ∧ i.natAbs.log2 < 1920 ∧ Q (.str (toString i)) H
theorem call_strU {X : Cx} : CallR X (.type "str") rStr1 := call_str_int
theorem i_str_i {i : Int} (h : Sz 1900 i) (q : Q (.str (It i)) H) : rStr1 [.int i] H Q := ⟨i, rfl, it_log h, q⟩
def isRef : V → Bool
  | .ref _ => true
  | _ => false
def spREq (C : Addr) : Sp := fun vs H Q _ => ∃ (x : Addr) (v : V) (t b t2 b2 : Int), vs = [.ref x, v] ∧ RatAt C H x t b ∧ Num C H v t2 b2 ∧ Q (.bl (isRef v && (decide (t = t2) && decide (b = b2)))) H
end
end Ly

namespace Ly
open PySem PySem.Spec PyProof.Rows L2
/-! ### the pot of a law, and what stays while it is drawn from -/
structure PotOk (a b : Int) : Prop where
  ha : 0 ≤ a
  hb : 0 ≤ b
  hc : b < 2147483648
def Pot (H : Hp) (p : Addr) : Prop := ∃ a b, H p = some (.lst [.int a, .int b]) ∧ PotOk a b
structure Dr (p : Addr) (H H' : Hp) : Prop where
  keep : ∀ q o, q ≠ p → H q = some o → H' q = some o
  pot : Pot H p
  pot' : Pot H' p
theorem Dr.refl {p : Addr} {H : Hp} (h : Pot H p) : Dr p H H := ⟨fun _ _ _ e => e, h, h⟩
theorem Dr.trans {p : Addr} {H H1 H2 : Hp} (a : Dr p H H1) (b : Dr p H1 H2) : Dr p H H2 := ⟨fun q o n e => b.keep q o n (a.keep q o n e), a.pot, b.pot'⟩
theorem Pot.same {p : Addr} {H H' : Hp} (s : Same H H') (h : Pot H p) : Pot H' p := by
  obtain ⟨a, b, e, o⟩ := h
  exact ⟨a, b, s _ _ e, o⟩
theorem Dr.of {p : Addr} {H H' : Hp} (s : Same H H') (h : Pot H p) : Dr p H H' := ⟨fun q o _ e => s q o e, h, h.same s⟩
theorem Dr.same {p : Addr} {H H1 H2 : Hp} (a : Dr p H H1) (s : Same H1 H2) : Dr p H H2 := a.trans (.of s a.pot')
theorem Dr.free {p : Addr} {H H' : Hp} (k : Dr p H H') {l : Addr} (h : H' l = none) : H l = none := by
  cases q : H l with
  | none => rfl
  | some o =>
    by_cases e : l = p
    · subst e
      obtain ⟨_, _, z, _⟩ := k.pot'
      rw [z] at h
      cases h
    · rw [k.keep l o e q] at h
      cases h
theorem Dr.ne {p : Addr} {H H' : Hp} (k : Dr p H H') {q : Addr} {o : HO} (h : H q = some o) (n : ∀ a b, o ≠ .lst [.int a, .int b]) : q ≠ p := by
  intro z
  subst z
  obtain ⟨a, b, e, _⟩ := k.pot
  rw [e] at h
  exact n a b (Option.some.inj h).symm
theorem Dr.tup {p : Addr} {H H' : Hp} (k : Dr p H H') {q : Addr} {xs : List V} (h : H q = some (.tup xs)) : H' q = some (.tup xs) := k.keep q _ (k.ne h fun _ _ z => by cases z) h
theorem Dr.ins {p : Addr} {H H' : Hp} (k : Dr p H H') {q C dx : Addr} {fs : List (Str × V)} (h : H q = some (.ins C dx fs)) : H' q = some (.ins C dx fs) := k.keep q _ (k.ne h fun _ _ z => by cases z) h
theorem RatAt.pk {p : Addr} {C : Addr} {H H' : Hp} {a : Addr} {t b : Int} (k : Dr p H H') (r : RatAt C H a t b) : RatAt C H' a t b := by
  obtain ⟨dx, e⟩ := r
  exact ⟨dx, k.ins e⟩
theorem Num.pk {p : Addr} {C : Addr} {H H' : Hp} {v : V} {t b : Int} (k : Dr p H H') (r : Num C H v t b) : Num C H' v t b := by
  rcases r with r | ⟨a, e, r⟩
  · exact .inl r
  · exact .inr ⟨a, e, r.pk k⟩
/-- a law's own fraction: a tuple of two ints -/
def FracAt (H : Hp) (a : Addr) (t b : Int) : Prop := H a = some (.tup [.int t, .int b])
theorem FracAt.same {H H' : Hp} {a : Addr} {t b : Int} (s : Same H H') (r : FracAt H a t b) : FracAt H' a t b := s _ _ r
theorem FracAt.pk {p : Addr} {H H' : Hp} {a : Addr} {t b : Int} (k : Dr p H H') (r : FracAt H a t b) : FracAt H' a t b := k.tup r
theorem fresh_ne {p q : Addr} {H : Hp} (h : Pot H p) (n : H q = none) : q ≠ p := by
  intro z
  subst z
  obtain ⟨_, _, e, _⟩ := h
  rw [e] at n
  cases n
/-- a new object, as a heap of its own -/
theorem i_new {H : Hp} {o : HO} {R : V → Hp → Prop} (q : ∀ p H', H p = none → H' p = some o → Same H H' → R (.ref p) H') : ∀ p, H p = none → R (.ref p) (upd H p o) := fun p n =>
  q p _ n upd_same fun b u e => by
    rw [upd_ne (ne_of_none e n)]
    exact e
section
variable {H : Hp} {Q : VK} {E : XK} {K : PySem.W.Frag} {σ : L2.St} {t : TA} {i j : Int}
def rMkT (xs : List V) (H : Hp) (Q : VK) : Prop := xs.length ≤ sizeLine ∧ ∀ p, H p = none → Q (.ref p) (upd H p (.tup xs))
def rMkL (xs : List V) (H : Hp) (Q : VK) : Prop := xs.length ≤ sizeLine ∧ ∀ p, H p = none → Q (.ref p) (upd H p (.lst xs))
theorem i_tup (q : t σ H fun xs H1 => rMkT xs H1 Q) : tTup t σ H Q := q
theorem i_lst (q : t σ H fun xs H1 => rMkL xs H1 Q) : tLst t σ H Q := q
/-- the ends of a display -/
theorem i_mkT {xs : List V} (h : xs.length ≤ 1000) (q : ∀ p H', H p = none → H' p = some (.tup xs) → Same H H' → Q (.ref p) H') : rMkT xs H Q := ⟨Nat.le_of_lt (small1000 h), i_new q⟩
theorem i_mkL {xs : List V} (h : xs.length ≤ 1000) (q : ∀ p H', H p = none → H' p = some (.lst xs) → Same H H' → Q (.ref p) H') : rMkL xs H Q := ⟨Nat.le_of_lt (small1000 h), i_new q⟩
theorem i_mkT2 {v w : V} (q : ∀ p H', H p = none → H' p = some (.tup [v, w]) → Same H H' → Q (.ref p) H') : rMkT [v, w] H Q := i_mkT (by show 2 ≤ 1000; decide) q
theorem i_mkL1 {v : V} (q : ∀ p H', H p = none → H' p = some (.lst [v]) → Same H H' → Q (.ref p) H') : rMkL [v] H Q := i_mkL (by show 1 ≤ 1000; decide) q
theorem i_mkL2 {v w : V} (q : ∀ p H', H p = none → H' p = some (.lst [v, w]) → Same H H' → Q (.ref p) H') : rMkL [v, w] H Q := i_mkL (by show 2 ≤ 1000; decide) q
theorem i_mkL3 {v w x : V} (q : ∀ p H', H p = none → H' p = some (.lst [v, w, x]) → Same H H' → Q (.ref p) H') : rMkL [v, w, x] H Q := i_mkL (by show 3 ≤ 1000; decide) q
theorem i_mkL4 {v w x y : V} (q : ∀ p H', H p = none → H' p = some (.lst [v, w, x, y]) → Same H H' → Q (.ref p) H') : rMkL [v, w, x, y] H Q := i_mkL (by show 4 ≤ 1000; decide) q
theorem i_mkL5 {v w x y z : V} (q : ∀ p H', H p = none → H' p = some (.lst [v, w, x, y, z]) → Same H H' → Q (.ref p) H') : rMkL [v, w, x, y, z] H Q := i_mkL (by show 5 ≤ 1000; decide) q
theorem i_mkL6 {v w x y z u : V} (q : ∀ p H', H p = none → H' p = some (.lst [v, w, x, y, z, u]) → Same H H' → Q (.ref p) H') : rMkL [v, w, x, y, z, u] H Q := i_mkL (by show 6 ≤ 1000; decide) q
def spDraw : Sp := fun vs H Q _ => ∃ (p : Addr) (n : Int), vs = [.ref p, .int n] ∧ Pot H p ∧ 0 < n ∧ Sz 4000 n ∧ ∀ d H', 0 ≤ d → d < n → Dr p H H' → Q (.int d) H'
theorem i_draw {p : Addr} {n : Int} (h : Pot H p) (h0 : 0 < n) (z : Sz 4000 n) (q : ∀ d H', 0 ≤ d → d < n → Dr p H H' → Q (.int d) H') : spDraw [.ref p, .int n] H Q E := ⟨p, n, rfl, h, h0, z, q⟩
def spPick : Sp := fun vs H Q _ => ∃ (p s : Addr) (xs : List V), vs = [.ref p, .ref s] ∧ Pot H p ∧ s ≠ p ∧ H s = some (.lst xs) ∧ xs ≠ [] ∧ xs.length ≤ 1000 ∧ ∀ x H', x ∈ xs → Dr p H H' → Q x H'
theorem i_pick {p s : Addr} {xs : List V} (h : Pot H p) (hs : s ≠ p) (e : H s = some (.lst xs)) (n : xs ≠ []) (l : xs.length ≤ 1000) (q : ∀ x H', x ∈ xs → Dr p H H' → Q x H') : spPick [.ref p, .ref s] H Q E := ⟨p, s, xs, rfl, h, hs, e, n, l, q⟩
/-- a new fraction -/
def pF (t b : Int) (H : Hp) (Q : VK) : Prop := ∀ r H', H r = none → Same H H' → FracAt H' r t b → Q (.ref r) H'
def spFrac : Sp := fun vs H Q _ => ∃ u d : Int, vs = [.int u, .int d] ∧ d ≠ 0 ∧ Sz 8900 u ∧ Sz 8900 d ∧ pF (Nu u d) (De u d) H Q
theorem i_frac {u d : Int} (h : d ≠ 0) (z1 : Sz 8900 u) (z2 : Sz 8900 d) (q : pF (Nu u d) (De u d) H Q) : spFrac [.int u, .int d] H Q E := ⟨u, d, rfl, h, z1, z2, q⟩
theorem pF_same {t b : Int} {H' : Hp} (s : Same H H') (q : pF t b H Q) : pF t b H' Q := fun r H2 n s2 f => q r H2 (s.free n) (s.trans s2) f
/-- of two fractions a new one -/
def spF2 (pre : Int → Int → Int → Int → Prop) (nu de : Int → Int → Int → Int → Int) : Sp := fun vs H Q _ => ∃ (x y : Addr) (t b t2 b2 : Int), vs = [.ref x, .ref y] ∧ FracAt H x t b ∧ FracAt H y t2 b2 ∧ Ok4 t b ∧ Ok4 t2 b2 ∧ pre t b t2 b2 ∧ pF (Nu (nu t b t2 b2) (de t b t2 b2)) (De (nu t b t2 b2) (de t b t2 b2)) H Q
theorem i_f2 {pre : Int → Int → Int → Int → Prop} {nu de : Int → Int → Int → Int → Int} {x y : Addr} {t b t2 b2 : Int} (h1 : FracAt H x t b) (h2 : FracAt H y t2 b2) (o : Ok4 t b) (o2 : Ok4 t2 b2) (p : pre t b t2 b2)
    (q : pF (Nu (nu t b t2 b2) (de t b t2 b2)) (De (nu t b t2 b2) (de t b t2 b2)) H Q) : spF2 pre nu de [.ref x, .ref y] H Q E := ⟨x, y, t, b, t2, b2, rfl, h1, h2, o, o2, p, q⟩
end
section
variable {H : Hp} {Q : VK} {K : PySem.W.Frag} {i j : Int} {p s : Addr} {xs ys : List V}
theorem i_dm (c : CDivP i j) (q : ∀ t H', H t = none → H' t = some (.tup [.int (i / j), .int (i % j)]) → Same H H' → Q (.ref t) H') : rDivmod [.int i, .int j] H Q := i_divmod c (i_new q)
theorem i_catL (h : H p = some (.lst xs)) (h' : H s = some (.lst ys)) (z : xs.length + ys.length ≤ 1000) (q : ∀ t H', H t = none → H' t = some (.lst (xs ++ ys)) → Same H H' → Q (.ref t) H') : rAddU (.ref p) (.ref s) H Q :=
  .inr (.inr ⟨p, s, xs, ys, rfl, rfl, h, h', Nat.le_of_lt (small1000 z), i_new q⟩)
theorem i_repL {n : Int} (h : H p = some (.lst xs)) (h1 : 0 ≤ n) (h2 : n ≤ 1000) (z : xs.length * n.toNat ≤ 1000) (q : ∀ t H', H t = none → H' t = some (.lst (List.replicate n.toNat xs).flatten) → Same H H' → Q (.ref t) H') : rMulU (.ref p) (.int n) H Q :=
  .inr ⟨p, n, xs, rfl, rfl, h, by omega, by omega, Nat.le_of_lt (small1000 z), i_new q⟩
end
section
variable {H : Hp} {Q : VK} {K : PySem.W.Frag} {a : Addr} {t b : Int}
theorem i_ix_f0 (h : FracAt H a t b) (q : Q (.int t) H) : rIx K (.ref a) (.int 0) H Q := i_ix_t (v := .int t) h rfl q
theorem i_ix_f1 (h : FracAt H a t b) (q : Q (.int b) H) : rIx K (.ref a) (.int 1) H Q := i_ix_t (v := .int b) h rfl q
end
theorem cdivp {i j : Int} (h : 0 < j) (h2 : Sz 4000 j) : CDivP i j := by
  refine ⟨h, ?_⟩
  have hl : j.natAbs.log2 < 4000 := PySem.Flt.log2_lt_of (by decide) h2
  show (decide ((if j == 0 then 0 else j.natAbs.log2 / 30 + 1) > 300) && _) = false
  rw [decide_eq_false]
  · rfl
  · split <;> omega
theorem Dr.mut {p q : Addr} {H H' : Hp} {o : HO} (k : Dr p H H') (h : H q = none) (n : q ≠ p) : Dr p H (upd H' q o) := by
  refine ⟨fun c u hc e => ?_, k.pot, ?_⟩
  · rw [upd_ne (ne_of_none e h)]
    exact k.keep c u hc e
  · obtain ⟨a, b, e, ok⟩ := k.pot'
    exact ⟨a, b, by rw [upd_ne (fun z => n z.symm)]; exact e, ok⟩
theorem sz_lit {n : Int} (h : n.natAbs < 2 ^ 64) : Sz 4000 n := sz_mono (n := 64) h (by decide)
section
variable {H : Hp} {Q : VK} {E : XK} {K : PySem.W.Frag} {C : Addr}
def spPot (K : PySem.W.Frag) : Sp := fun vs H Q _ => ∃ (s : Addr) (ns : List Int) (k : Int), vs = [.ref s, .int k] ∧ SqL K H s (ns.map V.int) ∧ 0 ≤ k ∧ k < 100 ∧ ∀ p H', H p = none → Same H H' → Pot H' p → Q (.ref p) H'
def spDrawn : Sp := fun vs H Q _ => ∃ p : Addr, vs = [.ref p] ∧ Pot H p ∧ ∀ r H' t b, H r = none → Dr p H H' → FracAt H' r t b → Lo t b → Sz 96 t → Sz 30 b → Q (.ref r) H'
theorem i_drawn {p : Addr} (h : Pot H p) (q : ∀ r H' t b, H r = none → Dr p H H' → FracAt H' r t b → Lo t b → Sz 96 t → Sz 30 b → Q (.ref r) H') : spDrawn [.ref p] H Q E := ⟨p, rfl, h, q⟩
def spText : Sp := fun vs H Q _ => ∃ (x : Addr) (t b : Int), vs = [.ref x] ∧ FracAt H x t b ∧ Sz 1900 t ∧ Sz 1900 b ∧ Q (.str (Rt t b)) H
theorem i_text {x : Addr} {t b : Int} (h : FracAt H x t b) (z1 : Sz 1900 t) (z2 : Sz 1900 b) (q : Q (.str (Rt t b)) H) : spText [.ref x] H Q E := ⟨x, t, b, rfl, h, z1, z2, q⟩
/-- read: of the text of a fraction in lowest terms -/
def spRead (C : Addr) : Sp := fun vs H Q _ => ∃ t b : Int, vs = [.str (Rt t b)] ∧ Lo t b ∧ Sz 600 t ∧ Sz 600 b ∧ ∀ r H', Same H H' → RatAt C H' r t b → Q (.ref r) H'
def spMade (C : Addr) : Sp := fun vs H Q _ => ∃ (p x : Addr) (t b : Int), vs = [.ref p, .ref x] ∧ Pot H p ∧ FracAt H x t b ∧ Lo t b ∧ Sz 600 t ∧ Sz 600 b ∧ ∀ r H', Dr p H H' → RatAt C H' r t b → Q (.ref r) H'
theorem i_made {p x : Addr} {t b : Int} (h : Pot H p) (f : FracAt H x t b) (l : Lo t b) (z1 : Sz 600 t) (z2 : Sz 600 b) (q : ∀ r H', Dr p H H' → RatAt C H' r t b → Q (.ref r) H') : spMade C [.ref p, .ref x] H Q E := ⟨p, x, t, b, rfl, h, f, l, z1, z2, q⟩
def spSide (C : Addr) : Sp := fun vs H Q _ => ∃ (p x : Addr) (t b : Int), vs = [.ref p, .ref x] ∧ Pot H p ∧ FracAt H x t b ∧ Lo t b ∧ Sz 600 t ∧ Sz 600 b ∧ ∀ v H', Dr p H H' → Num C H' v t b → Q v H'
theorem i_side {p x : Addr} {t b : Int} (h : Pot H p) (f : FracAt H x t b) (l : Lo t b) (z1 : Sz 600 t) (z2 : Sz 600 b) (q : ∀ v H', Dr p H H' → Num C H' v t b → Q v H') : spSide C [.ref p, .ref x] H Q E := ⟨p, x, t, b, rfl, h, f, l, z1, z2, q⟩
end
theorem Lo.scale {t b s : Int} (l : Lo t b) (hs : s ≠ 0) : Nu (t * s) (b * s) = t ∧ De (t * s) (b * s) = b := by
  have hb := l.pos
  have eg : G (t * s) (b * s) = (s.natAbs : Int) := by
    unfold G
    rw [Int.gcd_mul_right, l.one, Nat.one_mul]
  unfold Nu De
  rw [eg]
  by_cases hp : 0 < s
  · have e : (s.natAbs : Int) = s := by omega
    rw [e, if_pos (Int.mul_pos hb hp), if_pos (Int.mul_pos hb hp)]
    exact ⟨Int.mul_ediv_cancel t hs, Int.mul_ediv_cancel b hs⟩
  · have e : (s.natAbs : Int) = -s := by omega
    have n : ¬ 0 < b * s := by
      intro z
      have := Int.mul_neg_of_pos_of_neg hb (show s < 0 by omega)
      omega
    rw [e, if_neg n, if_neg n, ← Int.mul_neg, ← Int.mul_neg]
    exact ⟨Int.mul_ediv_cancel t (by omega), Int.mul_ediv_cancel b (by omega)⟩
end Ly

namespace Ly
open PySem PySem.Spec PyProof.Rows L2
/-! ### comprehensions -/
/-- all but lists stay -/
def NL (H H' : Hp) : Prop := ∀ q o, (∀ xs, o ≠ HO.lst xs) → H q = some o → H' q = some o
theorem NL.same {H H' : Hp} (s : Same H H') : NL H H' := fun q o _ e => s q o e
theorem NL.upd {H : Hp} {q : Addr} {xs ys : List V} (h : H q = some (.lst xs)) : NL H (upd H q (.lst ys)) := fun c o n e => by
  rw [upd_ne (fun z => by rw [z, h] at e; exact n xs (Option.some.inj e).symm)]
  exact e
theorem FracAt.nl {H H' : Hp} {a : Addr} {t b : Int} (s : NL H H') (r : FracAt H a t b) : FracAt H' a t b := s _ _ (fun _ z => by cases z) r
theorem RatAt.nl {C : Addr} {H H' : Hp} {a : Addr} {t b : Int} (s : NL H H') (r : RatAt C H a t b) : RatAt C H' a t b := by
  obtain ⟨dx, e⟩ := r
  exact ⟨dx, s _ _ (fun _ z => by cases z) e⟩
section
variable {K : PySem.W.Frag} {σ : L2.St} {H : Hp} {Q : VK} {te : TE} {l : Addr} {xs : List V} {n j : Nat} {vs : List Nat}
/-- over a list that stands, no test -/
theorem i_lcL (G : Nat → Hp → V → Prop) (hv : σ[n]? = some (some (.ref l))) (hl : H l = some (.lst xs)) (hz : xs.length ≤ 1000) (mono : ∀ i H1 H2 v, NL H1 H2 → G i H1 v → G i H2 v) (hw : ∀ x, wipe ((wipe σ vs).set j (some x)) vs = wipe σ vs)
    (turn : ∀ i x H' (Q' : VK), xs[i]? = some x → Same H H' → (∀ y H4, Same H' H4 → G i H4 y → Q' y H4) → te ((wipe σ vs).set j (some x)) H' Q')
    (fin : ∀ r H' ys, H r = none → Same H H' → H' r = some (.lst ys) → ys.length = xs.length → (∀ i v, ys[i]? = some v → G i H' v) → Q (.ref r) H') : tLc (iList K (tVar n)) (gName j) tYes te vs σ H Q := by
  refine ⟨_, hv, l, rfl, ⟨xs, SqL.of hl⟩, fun D nD => ?_⟩
  have same0 : Same H (upd H D (.lst [])) := fun c o e => by
    rw [upd_ne (ne_of_none e nD)]
    exact e
  refine lc_list (K := K) (a := l) (xs := xs) (fun i H' => ∃ ys, H' D = some (.lst ys) ∧ ys.length = i ∧ i ≤ xs.length ∧ Same H H' ∧ ∀ m v, ys[m]? = some v → G m H' v)
    ⟨[], upd_same, rfl, Nat.zero_le _, same0, fun m v e => by simp at e⟩ (fun i H' _ ⟨_, _, _, _, s, _⟩ => SqL.of (s _ _ hl)) ?_ ?_
  · rintro i x H' hi ⟨ys, hD, hy, hle, s, g⟩
    have hlt : i < xs.length := (List.getElem?_eq_some_iff.mp hi).1
    refine ⟨hw x, ?_⟩
    show te ((wipe σ vs).set j (some x)) H' _
    refine turn i x H' _ hi s fun y H4 s4 gy => ⟨ys, s4 _ _ hD, by rw [hy]; exact small1000 (by omega), ys ++ [y], upd_same, by rw [List.length_append, hy]; rfl, hlt, fun c o e => ?_, fun m v e => ?_⟩
    · rw [upd_ne (ne_of_none e nD)]
      exact s4 _ _ (s _ _ e)
    · have k := NL.upd (ys := ys ++ [y]) (s4 _ _ hD)
      rcases Nat.lt_or_ge m ys.length with h | h
      · rw [List.getElem?_append_left h] at e
        exact mono m _ _ v k (mono m _ _ v (NL.same s4) (g m v e))
      · rw [List.getElem?_append_right h] at e
        have : m - ys.length = 0 := by
          have := (List.getElem?_eq_some_iff.mp e).1
          simp at this
          omega
        rw [this] at e
        have e2 : y = v := Option.some.inj e
        subst e2
        have : m = i := by omega
        subst this
        exact mono _ _ _ y k gy
  · rintro H' ⟨ys, hD, hy, _, s, g⟩
    exact fin D H' ys nD s hD hy g
/-- over range(n), no test -/
theorem i_lcR {ta : TA} {m : Int} (G : Nat → Hp → V → Prop) (h : ∀ Q' : List V → Hp → Prop, Q' [.int m] H → ta σ H Q') (h0 : 0 ≤ m) (h1 : m ≤ 1000) (mono : ∀ i H1 H2 v, NL H1 H2 → G i H1 v → G i H2 v) (hw : ∀ x, wipe ((wipe σ vs).set j (some x)) vs = wipe σ vs)
    (turn : ∀ (i : Nat) H' (Q' : VK), (i : Int) < m → Same H H' → (∀ y H4, Same H' H4 → G i H4 y → Q' y H4) → te ((wipe σ vs).set j (some (.int (i : Int)))) H' Q')
    (fin : ∀ r H' ys, H r = none → Same H H' → H' r = some (.lst ys) → ys.length = m.toNat → (∀ i v, ys[i]? = some v → G i H' v) → Q (.ref r) H') : tLc (iRng1 ta) (gName j) tYes te vs σ H Q := by
  refine h _ ⟨m, rfl, by omega, by omega, fun D nD => ?_⟩
  have same0 : Same H (upd H D (.lst [])) := fun c o e => by
    rw [upd_ne (ne_of_none e nD)]
    exact e
  refine lc_range (lo := 0) (n := m.toNat) (fun i H' => ∃ ys, H' D = some (.lst ys) ∧ ys.length = i ∧ i ≤ m.toNat ∧ Same H H' ∧ ∀ k v, ys[k]? = some v → G k H' v)
    ⟨[], upd_same, rfl, Nat.zero_le _, same0, fun m v e => by simp at e⟩ ?_ ?_
  · rintro i H' hi ⟨ys, hD, hy, hle, s, g⟩
    have e0 : (0 : Int) + (i : Int) = (i : Int) := Int.zero_add _
    rw [e0]
    refine ⟨hw _, ?_⟩
    show te ((wipe σ vs).set j (some (.int (i : Int)))) H' _
    refine turn i H' _ (by omega) s fun y H4 s4 gy => ⟨ys, s4 _ _ hD, by rw [hy]; exact small1000 (by omega), ys ++ [y], upd_same, by rw [List.length_append, hy]; rfl, hi, fun c o e => ?_, fun k v e => ?_⟩
    · rw [upd_ne (ne_of_none e nD)]
      exact s4 _ _ (s _ _ e)
    · have kk := NL.upd (ys := ys ++ [y]) (s4 _ _ hD)
      rcases Nat.lt_or_ge k ys.length with h | h
      · rw [List.getElem?_append_left h] at e
        exact mono k _ _ v kk (mono k _ _ v (NL.same s4) (g k v e))
      · rw [List.getElem?_append_right h] at e
        have : k - ys.length = 0 := by
          have := (List.getElem?_eq_some_iff.mp e).1
          simp at this
          omega
        rw [this] at e
        have e2 : y = v := Option.some.inj e
        subst e2
        have : k = i := by omega
        subst this
        exact mono _ _ _ y kk gy
  · rintro H' ⟨ys, hD, hy, _, s, g⟩
    exact fin D H' ys nD s hD hy g
end
/-! ### keywords -/
section
variable {σ : L2.St} {H : Hp} {Q : VK} {E : XK} {C : Addr} {sp : Sp} {tk : TA} {ta : TE} {m : Str} {t b : Int} {a : Addr} {v : V}
def rSK (sp : Sp) (n : Nat) : List V → Hp → VK → Prop := fun zs H2 Q => zs.length = n ∧ sp ([] ++ zs) H2 Q E0
theorem i_smethK {n : Nat} (q : tk σ H fun zs H2 => rSK sp n zs H2 Q) : tSMethK0 C n sp (· ++ ·) (tC (.ref C)) tk σ H Q := ⟨rfl, q⟩
theorem i_sk1 (q : sp [v] H Q E0) : rSK sp 1 [v] H Q := ⟨rfl, q⟩
def rMK (C : Addr) (m : Str) (n : Nat) (sp : Sp) (tk : TA) (σ : L2.St) : V → Hp → VK → Prop := fun x H1 Q => ∃ a dx fs, x = .ref a ∧ H1 a = some (.ins C dx fs) ∧ fs.lookup m = none ∧ tk σ H1 fun zs H2 => zs.length = n ∧ sp ([x] ++ zs) H2 Q E0
theorem i_methK {n : Nat} (q : ta σ H fun x H1 => rMK C m n sp tk σ x H1 Q) : tMethK0 C m n sp (· ++ ·) ta tk σ H Q := q
def rMK1 (n : Nat) (sp : Sp) (x : V) : List V → Hp → VK → Prop := fun zs H2 Q => zs.length = n ∧ sp ([x] ++ zs) H2 Q E0
theorem i_rmk {n : Nat} (r : RatAt C H a t b) (h1 : ¬ m = "_top") (h2 : ¬ m = "_bottom") (q : tk σ H fun zs H2 => rMK1 n sp (.ref a) zs H2 Q) : rMK C m n sp tk σ (.ref a) H Q := by
  obtain ⟨dx, e⟩ := r
  exact ⟨a, dx, _, rfl, e, flds_no t b h1 h2, q⟩
theorem i_mk11 (q : sp [.ref a, v] H Q E0) : rMK1 1 sp (.ref a) [v] H Q := ⟨rfl, q⟩
/-- C(bottom=.., top=..) -/
def gBT {α : Type} (us ws : List α) : List α := us ++ ws.reverse
def rMakeK (C : Addr) (sp : Sp) : List V → Hp → VK → Prop := fun zs H2 Q => zs.length = 2 ∧ ∀ x dx, H2 x = none → H2 dx = none → dx ≠ x → sp (gBT [.ref x] zs) (upd (upd H2 dx (.own x)) x (.ins C dx [])) (fun v H3 => v = .non ∧ Q (.ref x) H3) E0
theorem i_makeK (q : tk σ H fun zs H2 => rMakeK C sp zs H2 Q) : tMakeK C 0 2 sp gBT E0 tNil tk σ H Q := by
  have e : (fun (zs : List V) (H2 : Hp) => rMakeK C sp zs H2 Q) = fun zs H2 => ([] : List V).length = 0 ∧ zs.length = 2 ∧ ∀ x dx, H2 x = none → H2 dx = none → dx ≠ x → sp (gBT (.ref x :: []) zs) (upd (upd H2 dx (.own x)) x (.ins C dx [])) (fun v H3 => v = .non ∧ Q (.ref x) H3) E0 := by
    funext zs H2
    simp [rMakeK]
  rw [e] at q
  exact q
theorem i_mkBT (hb : b ≠ 0) (z1 : t.natAbs < 2 ^ 8900) (z2 : b.natAbs < 2 ^ 8900) (q : ∀ x H', H x = none → Same H H' → RatAt C H' x (Nu t b) (De t b) → Q (.ref x) H') : rMakeK C (spInit C) [.int b, .int t] H Q := by
  refine ⟨rfl, ?_⟩
  have z := i_mk2 hb z1 z2 q
  intro x dx n1 n2 ne
  exact z x dx n1 n2 ne
end
structure MakK (W : Wd) (k : Nat) (x : Str) (C : Addr) (ks : List Str) (sp : Sp) : Prop where
  ex : ∃ (f : Addr) (fd : FuncData) (ps : List Str), Mk W.K C f ∧ FnOk W.P W.w W.K W.mg W.base CX0 k f fd ps sp ∧ W.mg x = some (.ref C) ∧ KBn W.K fd ps 1 ks gBT gBT
theorem pe_makK {X : Cx} {k j : Nat} {x : Str} {C : Addr} {ks : List Str} {sp : Sp} {p pos : Pos} {kws : List Keyword} {tk : TA} (h : MakK ⟨X.prog, X.w, X.K, X.mg, X.base⟩ k x C ks sp) (hr : Room j X.A) (hk : k + 1 ≤ j) (hg : Gl X x) (hkw : PK X kws tk)
    (hall : (backToKw pos (keywordEach kws X.env)).all (·.1.isSome) = true := by rfl) (hks : (backToKw pos (keywordEach kws X.env)).filterMap (·.1) = ks := by rfl) (hdb : (x == ("__debug__" : Str)) = false := by decide)
    (hpl : ((backTo pos (starEach [] X.env)).any (·.1) || (backToKw pos (keywordEach kws X.env)).any (·.1.isNone)) = false := by rfl) :
    PE X (.Call (.Name x p) [] kws pos) (tMakeK C 0 ks.length sp gBT E0 tNil tk) := by
  obtain ⟨f, fd, ps, M, F, hm, b⟩ := h.ex
  exact pe_makeK0 M F (hr.mono hk) hg hm b pass0 hkw hall hks hdb hpl
/-! ### lists of fractions, of Ratios -/
def FrL (H : Hp) (r : Addr) (ps : List (Int × Int)) : Prop := ∃ ys : List V, H r = some (.lst ys) ∧ ys.length = ps.length ∧ ∀ (i : Nat) (v : V) (p : Int × Int), ys[i]? = some v → ps[i]? = some p → ∃ y : Addr, v = V.ref y ∧ FracAt H y p.1 p.2
def spTold (C : Addr) : Sp := fun vs H Q _ => ∃ (l : Addr) (xs : List V) (ps : List (Int × Int)), vs = [.ref l] ∧ H l = some (.lst xs) ∧ xs.length = ps.length ∧ xs.length ≤ 1000 ∧ (∀ (i : Nat) (v : V) (p : Int × Int), xs[i]? = some v → ps[i]? = some p → ∃ y : Addr, v = V.ref y ∧ RatAt C H y p.1 p.2) ∧
  ∀ r H', H r = none → Same H H' → FrL H' r ps → Q (.ref r) H'
def spInts : Sp := fun vs H Q _ => ∃ (l : Addr) (ns : List Int), vs = [.ref l] ∧ H l = some (.lst (ns.map V.int)) ∧ ns.length ≤ 1000 ∧ ∀ H', Same H H' → Q (.bl true) H'
end Ly

namespace Ly
open PySem PySem.Spec PyProof.Rows L2
/-! ### equal data -/
def FrAll (H : Hp) : List V → List (Int × Int) → Prop
  | [], [] => True
  | v :: vs, p :: ps => (∃ y : Addr, v = V.ref y ∧ FracAt H y p.1 p.2) ∧ FrAll H vs ps
  | _, _ => False
def RaAll (C : Addr) (H : Hp) : List V → List (Int × Int) → Prop
  | [], [] => True
  | v :: vs, p :: ps => (∃ y : Addr, v = V.ref y ∧ RatAt C H y p.1 p.2) ∧ RaAll C H vs ps
  | _, _ => False
theorem FrAll.ix {H : Hp} : ∀ {ys : List V} {ps : List (Int × Int)}, FrAll H ys ps → ys.length = ps.length ∧ ∀ (i : Nat) (v : V) (p : Int × Int), ys[i]? = some v → ps[i]? = some p → ∃ y : Addr, v = V.ref y ∧ FracAt H y p.1 p.2
  | [], [], _ => ⟨rfl, fun i v p h => by simp at h⟩
  | v :: vs, p :: ps, h => by
    obtain ⟨l, g⟩ := FrAll.ix h.2
    refine ⟨by simp [l], fun i w q hw hq => ?_⟩
    cases i with
    | zero =>
      have e1 : v = w := Option.some.inj hw
      have e2 : p = q := Option.some.inj hq
      subst e1 e2
      exact h.1
    | succ i => exact g i w q hw hq
  | [], _ :: _, h => by cases h
  | _ :: _, [], h => by cases h
theorem RaAll.ix {C : Addr} {H : Hp} : ∀ {ys : List V} {ps : List (Int × Int)}, RaAll C H ys ps → ys.length = ps.length ∧ ∀ (i : Nat) (v : V) (p : Int × Int), ys[i]? = some v → ps[i]? = some p → ∃ y : Addr, v = V.ref y ∧ RatAt C H y p.1 p.2
  | [], [], _ => ⟨rfl, fun i v p h => by simp at h⟩
  | v :: vs, p :: ps, h => by
    obtain ⟨l, g⟩ := RaAll.ix h.2
    refine ⟨by simp [l], fun i w q hw hq => ?_⟩
    cases i with
    | zero =>
      have e1 : v = w := Option.some.inj hw
      have e2 : p = q := Option.some.inj hq
      subst e1 e2
      exact h.1
    | succ i => exact g i w q hw hq
  | [], _ :: _, h => by cases h
  | _ :: _, [], h => by cases h
theorem FrAll.of {H : Hp} : ∀ {ys : List V} {ps : List (Int × Int)}, ys.length = ps.length → (∀ (i : Nat) (v : V) (p : Int × Int), ys[i]? = some v → ps[i]? = some p → ∃ y : Addr, v = V.ref y ∧ FracAt H y p.1 p.2) → FrAll H ys ps
  | [], [], _, _ => trivial
  | v :: vs, p :: ps, l, h => ⟨h 0 v p rfl rfl, FrAll.of (by simpa using l) fun i w q hw hq => h (i + 1) w q hw hq⟩
  | [], _ :: _, l, _ => by cases l
  | _ :: _, [], l, _ => by cases l
theorem frl_of {H : Hp} {r : Addr} {ys : List V} {ps : List (Int × Int)} (h : H r = some (.lst ys)) (g : FrAll H ys ps) : FrL H r ps := ⟨ys, h, g.ix.1, g.ix.2⟩
theorem FrL.same {H H' : Hp} {r : Addr} {ps : List (Int × Int)} (s : Same H H') (h : FrL H r ps) : FrL H' r ps := by
  obtain ⟨ys, e, l, g⟩ := h
  refine ⟨ys, s _ _ e, l, fun i v p h1 h2 => ?_⟩
  obtain ⟨y, e2, f⟩ := g i v p h1 h2
  exact ⟨y, e2, f.same s⟩
def dF (p : Int × Int) : PyData := .tuple [.int p.1, .int p.2]
def dL (ps : List (Int × Int)) : PyData := .list (ps.map dF)
theorem FracAt.dp {K : PySem.W.Frag} {H : Hp} {r : Addr} {t b : Int} (h : FracAt H r t b) : Dp K H (.ref r) (dF (t, b)) := .tup (SqT.of h) (.cons (.int t) (.cons (.int b) .nil))
theorem FrAll.dp {K : PySem.W.Frag} {H : Hp} : ∀ {ys : List V} {ps : List (Int × Int)}, FrAll H ys ps → DpAll K H ys (ps.map dF)
  | [], [], _ => .nil
  | v :: vs, p :: ps, h => by
    obtain ⟨⟨y, rfl, f⟩, g⟩ := h
    exact .cons f.dp g.dp
  | [], _ :: _, h => by cases h
  | _ :: _, [], h => by cases h
theorem FrL.dp {K : PySem.W.Frag} {H : Hp} {r : Addr} {ps : List (Int × Int)} (h : FrL H r ps) : Dp K H (.ref r) (dL ps) := by
  obtain ⟨ys, e, l, g⟩ := h
  exact .lst (SqL.of e) (FrAll.of l g).dp
theorem dF_lay (p : Int × Int) : (dF p).canLay0 = true := by
  simp [dF, PyData.canLay0, PyData.canLayAll0]
theorem dL_lay (ps : List (Int × Int)) : (dL ps).canLay0 = true := by
  have e : PyData.canLayAll0 (ps.map dF) = true := by
    induction ps with
    | nil => rfl
    | cons p ps ih => simp [PyData.canLayAll0, dF_lay, ih]
  simp [dL, PyData.canLay0, e]
theorem dF_dep (p : Int × Int) : (dF p).depth = 1 := by
  simp [dF, PyData.depth, PyData.depthAll]
theorem dL_dep (ps : List (Int × Int)) : (dL ps).depth ≤ 2 := by
  have e : PyData.depthAll (ps.map dF) ≤ 1 := by
    induction ps with
    | nil => simp [PyData.depthAll]
    | cons p ps ih => 
      simp [PyData.depthAll, dF_dep]
      omega
  simp [dL, PyData.depth]
  omega
theorem dL_shaped (ps : List (Int × Int)) : SeqAt.shaped (dL ps) = true := by
  have := dL_dep ps
  unfold SeqAt.shaped
  rw [dL_lay, decide_eq_true (by omega)]
  rfl
theorem dF_shaped (p : Int × Int) : SeqAt.shaped (dF p) = true := by
  unfold SeqAt.shaped
  rw [dF_lay, dF_dep]
  rfl
theorem lay_refl {d : PyData} (h : SeqAt.shaped d = true) : d.eqv d = true := SeqAt.eqv_refl d (by
  unfold SeqAt.shaped at h
  exact (Bool.and_eq_true_iff.mp h).1)
/-- lists of ints, of texts -/
def dI (ns : List Int) : PyData := .list (ns.map PyData.int)
theorem dI_shaped (ns : List Int) : SeqAt.shaped (dI ns) = true := by
  have e : PyData.canLayAll0 (ns.map PyData.int) = true := by
    induction ns with
    | nil => rfl
    | cons p ps ih => simp [PyData.canLayAll0, PyData.canLay0, ih]
  have d : PyData.depthAll (ns.map PyData.int) = 0 := by
    clear e
    induction ns with
    | nil => rfl
    | cons p ps ih => simp [PyData.depthAll, PyData.depth, ih]
  unfold SeqAt.shaped
  simp [dI, PyData.canLay0, PyData.depth, e, d]
theorem dI_dp {K : PySem.W.Frag} {H : Hp} {r : Addr} {ns : List Int} (h : H r = some (.lst (ns.map V.int))) : Dp K H (.ref r) (dI ns) := by
  refine .lst (SqL.of h) ?_
  clear h
  induction ns with
  | nil => exact .nil
  | cons n ns ih => exact .cons (.int n) ih
section
variable {K : PySem.W.Frag} {H : Hp} {Q : VK} {x y : V} {d : PyData} {r r' : Addr} {ps : List (Int × Int)} {ns : List Int}
theorem i_eqD (h1 : Dp K H x d) (h2 : Dp K H y d) (s : SeqAt.shaped d = true) (q : Q (.bl true) H) : rEqU K x y H Q := .inr ⟨d, d, h1, h2, s, s, by rw [lay_refl s]; exact q⟩
theorem i_neD (h1 : Dp K H x d) (h2 : Dp K H y d) (s : SeqAt.shaped d = true) (q : Q (.bl false) H) : rNeU K x y H Q := .inr ⟨d, d, h1, h2, s, s, by rw [lay_refl s]; exact q⟩
theorem i_eqFr (h1 : FrL H r ps) (h2 : FrL H r' ps) (q : Q (.bl true) H) : rEqU K (.ref r) (.ref r') H Q := i_eqD h1.dp h2.dp (dL_shaped ps) q
theorem i_neFr (h1 : FrL H r ps) (h2 : FrL H r' ps) (q : Q (.bl false) H) : rNeU K (.ref r) (.ref r') H Q := i_neD h1.dp h2.dp (dL_shaped ps) q
theorem i_eqIn (h1 : H r = some (.lst (ns.map V.int))) (h2 : H r' = some (.lst (ns.map V.int))) (q : Q (.bl true) H) : rEqU K (.ref r) (.ref r') H Q := i_eqD (dI_dp h1) (dI_dp h2) (dI_shaped ns) q
theorem i_neIn (h1 : H r = some (.lst (ns.map V.int))) (h2 : H r' = some (.lst (ns.map V.int))) (q : Q (.bl false) H) : rNeU K (.ref r) (.ref r') H Q := i_neD (dI_dp h1) (dI_dp h2) (dI_shaped ns) q
/-- two fractions of the law -/
theorem i_eqF {t b t2 b2 : Int} (h1 : FracAt H r t b) (h2 : FracAt H r' t2 b2) (q : Q (.bl (decide (t = t2) && decide (b = b2))) H) : rEqU K (.ref r) (.ref r') H Q := by
  refine .inr ⟨_, _, h1.dp, h2.dp, dF_shaped _, dF_shaped _, ?_⟩
  have e : (dF (t, b)).eqv (dF (t2, b2)) = (decide (t = t2) && decide (b = b2)) := by
    have k : ∀ i j : Int, (i == j) = decide (i = j) := fun i j => by
      by_cases h : i = j <;> simp [h]
    simp [dF, PyData.eqv, PyData.eqvAll, k]
  rw [e]
  exact q
/-- two lists of two bools, of four -/
def dB (bs : List Bool) : PyData := .list (bs.map PyData.bool)
theorem dB_shaped (ns : List Bool) : SeqAt.shaped (dB ns) = true := by
  have e : PyData.canLayAll0 (ns.map PyData.bool) = true := by
    induction ns with
    | nil => rfl
    | cons p ps ih => simp [PyData.canLayAll0, PyData.canLay0, ih]
  have d : PyData.depthAll (ns.map PyData.bool) = 0 := by
    clear e
    induction ns with
    | nil => rfl
    | cons p ps ih => simp [PyData.depthAll, PyData.depth, ih]
  unfold SeqAt.shaped
  simp [dB, PyData.canLay0, PyData.depth, e, d]
theorem i_eqBl {bs : List Bool} (h1 : H r = some (.lst (bs.map V.bl))) (h2 : H r' = some (.lst (bs.map V.bl))) (q : Q (.bl true) H) : rEqU K (.ref r) (.ref r') H Q := by
  have g : ∀ {r : Addr}, H r = some (.lst (bs.map V.bl)) → Dp K H (.ref r) (dB bs) := fun h => by
    refine .lst (SqL.of h) ?_
    clear h h1 h2 q
    induction bs with
    | nil => exact .nil
    | cons n ns ih => exact .cons (.bl n) ih
  exact i_eqD (g h1) (g h2) (dB_shaped bs) q
end
/-- texts below the limit may be compared -/
theorem i_neTx {K : PySem.W.Frag} {H : Hp} {Q : VK} {r r' : Addr} {x y : Str} (z1 : PyData.strOk x = true) (z2 : PyData.strOk y = true) (h1 : H r = some (.lst [.str x, .str y])) (h2 : H r' = some (.lst [.str x, .str y])) (q : Q (.bl false) H) : rNeU K (.ref r) (.ref r') H Q := by
  have g : ∀ {r : Addr}, H r = some (.lst [.str x, .str y]) → Dp K H (.ref r) (.list [.str x, .str y]) := fun h => .lst (SqL.of h) (.cons (.str x) (.cons (.str y) .nil))
  refine i_neD (g h1) (g h2) ?_ q
  unfold SeqAt.shaped
  simp [PyData.canLay0, PyData.canLayAll0, PyData.depth, PyData.depthAll, z1, z2]
theorem ok_app {x y : Str} (h : PyData.strOk x = true) (k : PyData.strOk y = true) : PyData.strOk (x ++ y) = true := by
  show (x.cps ++ y.cps).all _ = true
  rw [Array.all_append]
  exact Bool.and_eq_true_iff.mpr ⟨h, k⟩
theorem ok_It (i : Int) : PyData.strOk (It i) = true := by
  have h : ∀ c ∈ (It i).cps.toList, c < 1114112 := fun c hc => by
    rcases Nat.lt_or_ge c 1114112 with k | k
    · exact k
    · exact absurd hc (PyProof.Rows.int_text_free' c (by omega) i)
  unfold PyData.strOk
  rw [Array.all_eq_true']
  intro c hc
  exact decide_eq_true (h c (Array.mem_toList_iff.mpr hc))
theorem ok_Rt (t b : Int) : PyData.strOk (Rt t b) = true := by
  unfold Rt
  split
  · exact ok_It t
  · exact ok_app (ok_app (ok_It t) (by decide +kernel)) (ok_It b)
theorem ok_Rp (t b : Int) : PyData.strOk (Rp t b) = true := ok_app (ok_app (ok_app (ok_app (by decide +kernel) (ok_It t)) (by decide +kernel)) (ok_It b)) (by decide +kernel)
theorem i_told {C : Addr} {H : Hp} {Q : VK} {E : XK} {l : Addr} {xs : List V} {ps : List (Int × Int)} (h : H l = some (.lst xs)) (g : RaAll C H xs ps) (z : xs.length ≤ 1000) (q : ∀ r H', H r = none → Same H H' → FrL H' r ps → Q (.ref r) H') : spTold C [.ref l] H Q E := ⟨l, xs, ps, rfl, h, g.ix.1, z, g.ix.2, q⟩
theorem i_ints {H : Hp} {Q : VK} {E : XK} {l : Addr} {ns : List Int} (h : H l = some (.lst (ns.map V.int))) (z : ns.length ≤ 1000) (q : ∀ H', Same H H' → Q (.bl true) H') : spInts [.ref l] H Q E := ⟨l, ns, rfl, h, z, q⟩
section
variable {C : Addr} {H : Hp} {Q : VK} {E : XK} {l : Addr}
theorem i_told1 {r1 : Addr} {t1 b1 : Int} (h : H l = some (.lst [.ref r1])) (g1 : RatAt C H r1 t1 b1) (q : ∀ r H', H r = none → Same H H' → FrL H' r [(t1, b1)] → Q (.ref r) H') : spTold C [.ref l] H Q E := i_told (ps := [(t1, b1)]) h ⟨⟨r1, rfl, g1⟩, trivial⟩ (by show 1 ≤ 1000; decide) q
theorem frl1 {r1 : Addr} {t1 b1 : Int} (h : H l = some (.lst [.ref r1])) (g1 : FracAt H r1 t1 b1) : FrL H l [(t1, b1)] := frl_of (ps := [(t1, b1)]) h ⟨⟨r1, rfl, g1⟩, trivial⟩
theorem i_told2 {r1 r2 : Addr} {t1 b1 t2 b2 : Int} (h : H l = some (.lst [.ref r1, .ref r2])) (g1 : RatAt C H r1 t1 b1) (g2 : RatAt C H r2 t2 b2) (q : ∀ r H', H r = none → Same H H' → FrL H' r [(t1, b1), (t2, b2)] → Q (.ref r) H') : spTold C [.ref l] H Q E := i_told (ps := [(t1, b1), (t2, b2)]) h ⟨⟨r1, rfl, g1⟩, ⟨r2, rfl, g2⟩, trivial⟩ (by show 2 ≤ 1000; decide) q
theorem frl2 {r1 r2 : Addr} {t1 b1 t2 b2 : Int} (h : H l = some (.lst [.ref r1, .ref r2])) (g1 : FracAt H r1 t1 b1) (g2 : FracAt H r2 t2 b2) : FrL H l [(t1, b1), (t2, b2)] := frl_of (ps := [(t1, b1), (t2, b2)]) h ⟨⟨r1, rfl, g1⟩, ⟨r2, rfl, g2⟩, trivial⟩
theorem i_told3 {r1 r2 r3 : Addr} {t1 b1 t2 b2 t3 b3 : Int} (h : H l = some (.lst [.ref r1, .ref r2, .ref r3])) (g1 : RatAt C H r1 t1 b1) (g2 : RatAt C H r2 t2 b2) (g3 : RatAt C H r3 t3 b3) (q : ∀ r H', H r = none → Same H H' → FrL H' r [(t1, b1), (t2, b2), (t3, b3)] → Q (.ref r) H') : spTold C [.ref l] H Q E := i_told (ps := [(t1, b1), (t2, b2), (t3, b3)]) h ⟨⟨r1, rfl, g1⟩, ⟨r2, rfl, g2⟩, ⟨r3, rfl, g3⟩, trivial⟩ (by show 3 ≤ 1000; decide) q
theorem frl3 {r1 r2 r3 : Addr} {t1 b1 t2 b2 t3 b3 : Int} (h : H l = some (.lst [.ref r1, .ref r2, .ref r3])) (g1 : FracAt H r1 t1 b1) (g2 : FracAt H r2 t2 b2) (g3 : FracAt H r3 t3 b3) : FrL H l [(t1, b1), (t2, b2), (t3, b3)] := frl_of (ps := [(t1, b1), (t2, b2), (t3, b3)]) h ⟨⟨r1, rfl, g1⟩, ⟨r2, rfl, g2⟩, ⟨r3, rfl, g3⟩, trivial⟩
theorem i_told6 {r1 r2 r3 r4 r5 r6 : Addr} {t1 b1 t2 b2 t3 b3 t4 b4 t5 b5 t6 b6 : Int} (h : H l = some (.lst [.ref r1, .ref r2, .ref r3, .ref r4, .ref r5, .ref r6])) (g1 : RatAt C H r1 t1 b1) (g2 : RatAt C H r2 t2 b2) (g3 : RatAt C H r3 t3 b3) (g4 : RatAt C H r4 t4 b4) (g5 : RatAt C H r5 t5 b5) (g6 : RatAt C H r6 t6 b6) (q : ∀ r H', H r = none → Same H H' → FrL H' r [(t1, b1), (t2, b2), (t3, b3), (t4, b4), (t5, b5), (t6, b6)] → Q (.ref r) H') : spTold C [.ref l] H Q E := i_told (ps := [(t1, b1), (t2, b2), (t3, b3), (t4, b4), (t5, b5), (t6, b6)]) h ⟨⟨r1, rfl, g1⟩, ⟨r2, rfl, g2⟩, ⟨r3, rfl, g3⟩, ⟨r4, rfl, g4⟩, ⟨r5, rfl, g5⟩, ⟨r6, rfl, g6⟩, trivial⟩ (by show 6 ≤ 1000; decide) q
theorem frl6 {r1 r2 r3 r4 r5 r6 : Addr} {t1 b1 t2 b2 t3 b3 t4 b4 t5 b5 t6 b6 : Int} (h : H l = some (.lst [.ref r1, .ref r2, .ref r3, .ref r4, .ref r5, .ref r6])) (g1 : FracAt H r1 t1 b1) (g2 : FracAt H r2 t2 b2) (g3 : FracAt H r3 t3 b3) (g4 : FracAt H r4 t4 b4) (g5 : FracAt H r5 t5 b5) (g6 : FracAt H r6 t6 b6) : FrL H l [(t1, b1), (t2, b2), (t3, b3), (t4, b4), (t5, b5), (t6, b6)] := frl_of (ps := [(t1, b1), (t2, b2), (t3, b3), (t4, b4), (t5, b5), (t6, b6)]) h ⟨⟨r1, rfl, g1⟩, ⟨r2, rfl, g2⟩, ⟨r3, rfl, g3⟩, ⟨r4, rfl, g4⟩, ⟨r5, rfl, g5⟩, ⟨r6, rfl, g6⟩, trivial⟩
end
end Ly

namespace Ly
open PySem PySem.Spec PyProof.Rows L2
/-- an item of a list, by a count -/
def rGetL (K : PySem.W.Frag) : V → V → Hp → VK → Prop := fun x y H Q => ∃ (p : Addr) (xs : List V) (m : Nat) (v : V), x = .ref p ∧ y = .int m ∧ SqL K H p xs ∧ xs[m]? = some v ∧ Q v H
theorem pget_list {X : Cx} : PGet X (rGetL X.K) := fun pins s σ H o i ov iv Q I ro ri ⟨p, xs, n, z, ho, hi, hq, he, q⟩ => by
  subst ho
  subst hi
  obtain rfl : ov = .ref p := ro
  obtain ⟨t, rfl⟩ := ri
  obtain ⟨its, r, pl, hz⟩ := I.list hq
  obtain ⟨w, ew, rw'⟩ := r.get he
  have hl : n < xs.length := (List.getElem?_eq_some_iff.mp he).1
  have hs : sizeLine < 2 ^ 62 := by decide
  refine PyProof.Rows.getItem_listL pl.isList (by omega) (by omega) (x := w) ?_ ?_
  · rw [Int.toNat_natCast]
    exact ew
  · exact ⟨_, _, I, rw', q⟩
section
variable {X : Cx} {k j : Nat} {C : Addr} {x : Str} {sp : Sp} {op : Operator}
theorem neg_m (h : Mt ⟨X.prog, X.w, X.K, X.mg, X.base⟩ k C "__neg__" sp) (hr : Room j X.A) (hk : k ≤ j) : UnR X (unaryOp UnaryOp.USub) (uOwn C sp) := by
  obtain ⟨f, fd, ps, hm, F, b⟩ := h.ex
  exact un_own F (hr.mono hk) b hm.at_ hm.fn
theorem abs_m (h : Mt ⟨X.prog, X.w, X.K, X.mg, X.base⟩ k C "__abs__" sp) (hr : Room j X.A) (hk : k + 1 ≤ j) : CallR X (.builtin "abs") (rCOwn C sp) := by
  obtain ⟨f, fd, ps, hm, F, b⟩ := h.ex
  exact call_abs_own F (hr.mono hk) b hm.at_ hm.fn
theorem str_m (h : Mt ⟨X.prog, X.w, X.K, X.mg, X.base⟩ k C "__str__" sp) (hr : Room j X.A) (hk : k + 3 ≤ j) : CallR X (.type "str") (rSOwn C sp) := by
  obtain ⟨f, fd, ps, hm, F, b⟩ := h.ex
  exact call_str_own F (hr.mono hk) b hm.at_ hm.fn
theorem repr_m (h : Mt ⟨X.prog, X.w, X.K, X.mg, X.base⟩ k C "__repr__" sp) (hr : Room j X.A) (hk : k + 2 ≤ j) : CallR X (.builtin "repr") (rSOwn C sp) := by
  obtain ⟨f, fd, ps, hm, F, b⟩ := h.ex
  exact call_repr_own F (hr.mono hk) b hm.at_ hm.fn
def rEqNum (C : Addr) (sp : Sp) : R2 := rOr (rEqOwn C sp) (rIEqOwn C sp id)
def rNeNum (C : Addr) (sp : Sp) : R2 := rOr (rNeOwn C sp) (rIEqOwn C sp not)
theorem op_eqN (h : Mt ⟨X.prog, X.w, X.K, X.mg, X.base⟩ k C "__eq__" sp) (o : OwnC X.K X.mg x C) (hr : Room j X.A) (hk : k ≤ j) : OpR X (compareOp .Eq) (rEqNum C sp) := by
  obtain ⟨f, fd, ps, hm, F, b⟩ := h.ex
  exact opr_or (op_eq_own F (hr.mono hk) b hm.at_ hm.fn o.nI) (op_eq_Iown F (hr.mono hk) b hm.at_ hm.fn o.sI')
theorem op_neN (h : Mt ⟨X.prog, X.w, X.K, X.mg, X.base⟩ k C "__eq__" sp) (o : OwnC X.K X.mg x C) (ne : PySem.W.findIn X.K (.ref C) "__ne__" = some (some (.builtin "object.__ne__"))) (hr : Room j X.A) (hk : k + 3 ≤ j) : OpR X (compareOp .NotEq) (rNeNum C sp) := by
  obtain ⟨f, fd, ps, hm, F, b⟩ := h.ex
  exact opr_or (op_ne_own F (hr.mono hk) b hm.at_ hm.fn ne o.sO o.sI) (op_ne_Iown F (hr.mono hk) b hm.at_ hm.fn ne o.sO o.sI')
/-- in place, on the left an own one, on the right an own one or an int -/
def rInp (C : Addr) (sp : Sp) : TIp := fun x y H Q => ∃ a dx fs, x = .ref a ∧ H a = some (.ins C dx fs) ∧ ((∃ b dy gs, y = .ref b ∧ H b = some (.ins C dy gs)) ∨ ∃ i, y = .int i) ∧ sp [x, y] H Q E0
theorem ip_num {m m' : Str} {k' : Nat} {spR : Sp} (h : Mt ⟨X.prog, X.w, X.K, X.mg, X.base⟩ k C m sp) (h' : Mt ⟨X.prog, X.w, X.K, X.mg, X.base⟩ k' C m' spR) (o : OwnC X.K X.mg x C) (hr : Room j X.A) (hk : k ≤ j) (e : PySem.dunder op.info.2 = m) (e' : dunderR op.info.2 = m')
    (hi : PySem.W.findIn X.K (.ref C) (dunderI op.info.2) = some none) (ho : PySem.W.findIn X.K (.type "object") (dunderI op.info.2) = some none)
    {fo ro : Option Value} (h1 : PySem.W.findIn X.K (.type "int") (PySem.dunder op.info.2) = some fo) (h2 : PySem.W.findIn X.K (.type "int") (dunderR op.info.2) = some ro) (h12 : ((fo.isSome && !isSeqSlot fo) || (ro.isSome && !isSeqSlot ro)) = true) : PIp X op (rInp C sp) := by
  subst e
  subst e'
  obtain ⟨f, fd, ps, hm, F, b⟩ := _root_.id h.ex
  obtain ⟨f', fd', ps', hm', F', b'⟩ := _root_.id h'.ex
  intro pins s σ H u w v v' Q I ru rw' q
  obtain ⟨a, dx, fs, rfl, ha, hy, q⟩ := q
  obtain rfl : v = .ref a := ru
  refine in_of I ha o.m2 hi ho ?_
  rcases hy with ⟨c, dy, gs, rfl, hc⟩ | ⟨i, rfl⟩
  · obtain rfl : v' = .ref c := rw'
    exact bin1_own2 F (hr.mono hk) b hm.at_ hm.fn o.sf I ha hc q
  · obtain ⟨t, rfl⟩ := rw'
    exact bin1_ownI F (hr.mono hk) b hm.at_ hm.fn o.sf (rc := some (.ref f')) hm'.at_ (.inr ⟨f', rfl⟩) h1 h2 h12 o.sI I ha q
end
theorem ip_addN {X : Cx} {C : Addr} {x : Str} {k k' j : Nat} {sp spR : Sp} (h : Mt ⟨X.prog, X.w, X.K, X.mg, X.base⟩ k C "__add__" sp) (h' : Mt ⟨X.prog, X.w, X.K, X.mg, X.base⟩ k' C "__radd__" spR) (o : OwnC X.K X.mg x C) (hi : PySem.W.findIn X.K (.ref C) "__iadd__" = some none) (hr : Room j X.A) (hk : k ≤ j) : PIp X .Add (rInp C sp) :=
  ip_num (op := .Add) h h' o hr hk (by decide +kernel) (by decide +kernel) hi (by with_unfolding_all rfl) (fo := some (.builtin "int.__add__")) (ro := some (.builtin "int.__radd__")) (by with_unfolding_all rfl) (by with_unfolding_all rfl) (by decide +kernel)
theorem ip_subN {X : Cx} {C : Addr} {x : Str} {k k' j : Nat} {sp spR : Sp} (h : Mt ⟨X.prog, X.w, X.K, X.mg, X.base⟩ k C "__sub__" sp) (h' : Mt ⟨X.prog, X.w, X.K, X.mg, X.base⟩ k' C "__rsub__" spR) (o : OwnC X.K X.mg x C) (hi : PySem.W.findIn X.K (.ref C) "__isub__" = some none) (hr : Room j X.A) (hk : k ≤ j) : PIp X .Sub (rInp C sp) :=
  ip_num (op := .Sub) h h' o hr hk (by decide +kernel) (by decide +kernel) hi (by with_unfolding_all rfl) (fo := some (.builtin "int.__sub__")) (ro := some (.builtin "int.__rsub__")) (by with_unfolding_all rfl) (by with_unfolding_all rfl) (by decide +kernel)
theorem ip_mulN {X : Cx} {C : Addr} {x : Str} {k k' j : Nat} {sp spR : Sp} (h : Mt ⟨X.prog, X.w, X.K, X.mg, X.base⟩ k C "__mul__" sp) (h' : Mt ⟨X.prog, X.w, X.K, X.mg, X.base⟩ k' C "__rmul__" spR) (o : OwnC X.K X.mg x C) (hi : PySem.W.findIn X.K (.ref C) "__imul__" = some none) (hr : Room j X.A) (hk : k ≤ j) : PIp X .Mult (rInp C sp) :=
  ip_num (op := .Mult) h h' o hr hk (by decide +kernel) (by decide +kernel) hi (by with_unfolding_all rfl) (fo := some (.builtin "int.__mul__")) (ro := some (.builtin "int.__rmul__")) (by with_unfolding_all rfl) (by with_unfolding_all rfl) (by decide +kernel)
theorem ip_fdN {X : Cx} {C : Addr} {x : Str} {k k' j : Nat} {sp spR : Sp} (h : Mt ⟨X.prog, X.w, X.K, X.mg, X.base⟩ k C "__floordiv__" sp) (h' : Mt ⟨X.prog, X.w, X.K, X.mg, X.base⟩ k' C "__rfloordiv__" spR) (o : OwnC X.K X.mg x C) (hi : PySem.W.findIn X.K (.ref C) "__ifloordiv__" = some none) (hr : Room j X.A) (hk : k ≤ j) : PIp X .FloorDiv (rInp C sp) :=
  ip_num (op := .FloorDiv) h h' o hr hk (by decide +kernel) (by decide +kernel) hi (by with_unfolding_all rfl) (fo := some (.builtin "int.__floordiv__")) (ro := some (.builtin "int.__rfloordiv__")) (by with_unfolding_all rfl) (by with_unfolding_all rfl) (by decide +kernel)
theorem ip_mdN {X : Cx} {C : Addr} {x : Str} {k k' j : Nat} {sp spR : Sp} (h : Mt ⟨X.prog, X.w, X.K, X.mg, X.base⟩ k C "__mod__" sp) (h' : Mt ⟨X.prog, X.w, X.K, X.mg, X.base⟩ k' C "__rmod__" spR) (o : OwnC X.K X.mg x C) (hi : PySem.W.findIn X.K (.ref C) "__imod__" = some none) (hr : Room j X.A) (hk : k ≤ j) : PIp X .Mod (rInp C sp) :=
  ip_num (op := .Mod) h h' o hr hk (by decide +kernel) (by decide +kernel) hi (by with_unfolding_all rfl) (fo := some (.builtin "int.__mod__")) (ro := some (.builtin "int.__rmod__")) (by with_unfolding_all rfl) (by with_unfolding_all rfl) (by decide +kernel)
section
variable {H : Hp} {Q : VK} {E : XK} {K : PySem.W.Frag} {C a : Addr} {t b t2 b2 : Int} {y : V} {ta : TE} {σ : L2.St}
theorem i_negR {f : Int → Int} (r : RatAt C H a t b) (o : Ok4 t b) (q : ∀ r H', H r = none → Same H H' → RatAt C H' r (Nu (f t) b) (De (f t) b) → Q (.ref r) H') : uOwn C (spUn C f) (.ref a) H Q := by
  obtain ⟨dx, e⟩ := _root_.id r
  exact ⟨a, dx, _, rfl, e, a, t, b, rfl, r, o, q⟩
theorem i_absR {f : Int → Int} (r : RatAt C H a t b) (o : Ok4 t b) (q : ∀ r H', H r = none → Same H H' → RatAt C H' r (Nu (f t) b) (De (f t) b) → Q (.ref r) H') : rCOwn C (spUn C f) [.ref a] H Q := by
  obtain ⟨dx, e⟩ := _root_.id r
  exact ⟨a, dx, _, rfl, e, a, t, b, rfl, r, o, q⟩
theorem i_strR {f : Int → Int → Str} (r : RatAt C H a t b) (z1 : Sz 1900 t) (z2 : Sz 1900 b) (q : Q (.str (f t b)) H) : rSOwn C (spTxt C f) [.ref a] H Q := by
  obtain ⟨dx, e⟩ := _root_.id r
  exact ⟨a, dx, _, rfl, e, a, t, b, rfl, r, z1, z2, ⟨_, rfl⟩, q⟩
theorem i_int1 {f : Int → Int → Int} (r : RatAt C H a t b) (h : 0 < b) (z : Sz 8900 b) (q : Q (.int (f t b)) H) : spInt C f [.ref a] H Q E := ⟨a, t, b, rfl, r, h, z, q⟩
theorem i_cmp {v : V} (r : RatAt C H a t b) (o : Ok4 t b) (n : Num C H v t2 b2) (o2 : Ok4 t2 b2) (q : ∀ H', Same H H' → Q (.int (cmpI t b t2 b2)) H') : spCmp C [.ref a, v] H Q E := ⟨a, v, t, b, t2, b2, rfl, r, o, n, o2, q⟩
theorem i_over {v : V} (r : RatAt C H a t b) (o : Ok4 t b) (n : Num C H v t2 b2) (o2 : Ok4 t2 b2) (h : t2 ≠ 0) (q : ∀ r H', H r = none → Same H H' → RatAt C H' r (Nu (oN t b t2 b2) (oD t b t2 b2)) (De (oN t b t2 b2) (oD t b t2 b2)) → Q (.ref r) H') : spOver C [.ref a, v] H Q E := ⟨a, v, t, b, t2, b2, rfl, r, o, n, o2, h, q⟩
theorem i_inp {nu de : Int → Int → Int → Int → Int} (r : RatAt C H a t b) (n : Num C H y t2 b2) (o : Ok4 t b) (o2 : Ok4 t2 b2) (q : pR C nu de t b t2 b2 H Q) : rInp C (spBin C nu de) (.ref a) y H Q := by
  obtain ⟨dx, e⟩ := _root_.id r
  refine ⟨a, dx, _, rfl, e, ?_, a, y, t, b, t2, b2, rfl, r, o, n, o2, q⟩
  rcases n with ⟨rfl, _⟩ | ⟨c, rfl, dy, e2⟩
  · exact .inr ⟨_, rfl⟩
  · exact .inl ⟨c, dy, _, rfl, e2⟩
theorem i_inpG {pre : Q4} {post : P4} (r : RatAt C H a t b) (n : Num C H y t2 b2) (o : Ok4 t b) (o2 : Ok4 t2 b2) (p : pre t b t2 b2) (q : post t b t2 b2 H Q) : rInp C (spBinG C pre post) (.ref a) y H Q := by
  obtain ⟨dx, e⟩ := _root_.id r
  refine ⟨a, dx, _, rfl, e, ?_, a, y, t, b, t2, b2, rfl, r, o, n, o2, p, q⟩
  rcases n with ⟨rfl, _⟩ | ⟨c, rfl, dy, e2⟩
  · exact .inr ⟨_, rfl⟩
  · exact .inl ⟨c, dy, _, rfl, e2⟩
/-- == of a Ratio and any number, from either side -/
def sameR (y : V) (t b t2 b2 : Int) : Bool := isRef y && (decide (t = t2) && decide (b = b2))
theorem i_eqL (r : RatAt C H a t b) (n : Num C H y t2 b2) (q : Q (.bl (sameR y t b t2 b2)) H) : rEqNum C (spREq C) (.ref a) y H Q := by
  obtain ⟨dx, e⟩ := _root_.id r
  refine .inl ⟨a, dx, _, rfl, e, ?_, a, y, t, b, t2, b2, rfl, r, n, q⟩
  rcases n with ⟨rfl, _⟩ | ⟨c, rfl, dy, e2⟩
  · exact .inr ⟨_, rfl⟩
  · exact .inl ⟨c, dy, _, rfl, e2⟩
theorem i_neL (r : RatAt C H a t b) (n : Num C H y t2 b2) (q : Q (.bl (!sameR y t b t2 b2)) H) : rNeNum C (spREq C) (.ref a) y H Q := by
  obtain ⟨dx, e⟩ := _root_.id r
  refine .inl ⟨a, dx, _, rfl, e, ?_, a, y, t, b, t2, b2, rfl, r, n, _, rfl, q⟩
  rcases n with ⟨rfl, _⟩ | ⟨c, rfl, dy, e2⟩
  · exact .inr ⟨_, rfl⟩
  · exact .inl ⟨c, dy, _, rfl, e2⟩
theorem dcomm (i j : Int) : decide (i = j) = decide (j = i) := by
  by_cases h : i = j
  · rw [h]
  · rw [decide_eq_false h, decide_eq_false fun z => h z.symm]
theorem i_eqR (r : RatAt C H a t b) (n : Num C H y t2 b2) (q : Q (.bl (sameR y t b t2 b2)) H) : rEqNum C (spREq C) y (.ref a) H Q := by
  obtain ⟨dx, e⟩ := _root_.id r
  rcases n with ⟨rfl, _⟩ | ⟨c, rfl, dy, e2⟩
  · exact .inr ⟨a, dx, _, t2, rfl, rfl, e, a, .int t2, t, b, t2, 1, rfl, r, num_int t2, _, rfl, q⟩
  · refine .inl ⟨c, dy, _, rfl, e2, .inl ⟨a, dx, _, rfl, e⟩, c, .ref a, t2, b2, t, b, rfl, ⟨dy, e2⟩, r.num, ?_⟩
    unfold sameR at q
    rw [dcomm t2, dcomm b2]
    exact q
theorem i_neR (r : RatAt C H a t b) (n : Num C H y t2 b2) (q : Q (.bl (!sameR y t b t2 b2)) H) : rNeNum C (spREq C) y (.ref a) H Q := by
  obtain ⟨dx, e⟩ := _root_.id r
  rcases n with ⟨rfl, _⟩ | ⟨c, rfl, dy, e2⟩
  · exact .inr ⟨a, dx, _, t2, rfl, rfl, e, a, .int t2, t, b, t2, 1, rfl, r, num_int t2, _, rfl, q⟩
  · refine .inl ⟨c, dy, _, rfl, e2, .inl ⟨a, dx, _, rfl, e⟩, c, .ref a, t2, b2, t, b, rfl, ⟨dy, e2⟩, r.num, _, rfl, ?_⟩
    unfold sameR at q
    rw [dcomm t2, dcomm b2]
    exact q
end
end Ly

namespace Ly
theorem nu_g {x y : Int} (h : y ≠ 0) : ∃ g, g ≠ 0 ∧ x = Nu x y * g ∧ y = De x y * g := by
  have hg := G_pos (t := x) h
  have e1 : x / G x y * G x y = x := Int.ediv_mul_cancel (G_dl x y)
  have e2 : y / G x y * G x y = y := Int.ediv_mul_cancel (G_dr x y)
  have n1 : G x y ∣ -x := (Int.dvd_neg).mpr (G_dl x y)
  have n2 : G x y ∣ -y := (Int.dvd_neg).mpr (G_dr x y)
  have e3 : -x / G x y * G x y = -x := Int.ediv_mul_cancel n1
  have e4 : -y / G x y * G x y = -y := Int.ediv_mul_cancel n2
  unfold Nu De
  by_cases hy : 0 < y
  · rw [if_pos hy, if_pos hy]
    exact ⟨G x y, by omega, e1.symm, e2.symm⟩
  · rw [if_neg hy, if_neg hy]
    refine ⟨-G x y, by omega, ?_, ?_⟩
    · rw [Int.mul_neg, e3, Int.neg_neg]
    · rw [Int.mul_neg, e4, Int.neg_neg]
theorem nu_cross {x y : Int} (h : y ≠ 0) : Nu x y * y = x * De x y := by
  obtain ⟨g, hg, e1, e2⟩ := nu_g (x := x) h
  have a1 : Nu x y * y = Nu x y * (De x y * g) := congrArg (Nu x y * ·) e2
  have a2 : x * De x y = Nu x y * g * De x y := congrArg (· * De x y) e1
  rw [a1, a2, Int.mul_assoc, Int.mul_comm g]
theorem Lo.scale' {t b s : Int} (l : Lo t b) (hs : s ≠ 0) : Nu (t * s) (b * s) = t ∧ De (t * s) (b * s) = b := by
  have hb := l.pos
  have eg : G (t * s) (b * s) = (s.natAbs : Int) := by
    unfold G
    rw [Int.gcd_mul_right, l.one, Nat.one_mul]
  unfold Nu De
  rw [eg]
  by_cases hp : 0 < s
  · have e : (s.natAbs : Int) = s := by omega
    rw [e, if_pos (Int.mul_pos hb hp), if_pos (Int.mul_pos hb hp)]
    exact ⟨Int.mul_ediv_cancel t hs, Int.mul_ediv_cancel b hs⟩
  · have e : (s.natAbs : Int) = -s := by omega
    have n : ¬ 0 < b * s := by
      intro z
      have := Int.mul_neg_of_pos_of_neg hb (show s < 0 by omega)
      omega
    rw [e, if_neg n, if_neg n, ← Int.mul_neg, ← Int.mul_neg]
    exact ⟨Int.mul_ediv_cancel t (by omega), Int.mul_ediv_cancel b (by omega)⟩
theorem nu_scale {x y s : Int} (h : y ≠ 0) (hs : s ≠ 0) : Nu (x * s) (y * s) = Nu x y ∧ De (x * s) (y * s) = De x y := by
  obtain ⟨g, hg, e1, e2⟩ := nu_g (x := x) h
  have k := (lo_nu (t := x) h).scale' (s := g * s) (Int.mul_ne_zero hg hs)
  rw [← Int.mul_assoc, ← Int.mul_assoc, ← e1, ← e2] at k
  exact k
theorem frest {x y : Int} (h : y ≠ 0) : (x - x.fdiv y * y).natAbs ≤ y.natAbs := by
  rcases Int.lt_or_gt_of_ne h with k | k
  · have e : x.fdiv y = (-x) / (-y) := by
      rw [(Int.neg_fdiv_neg x y).symm, Int.fdiv_eq_ediv_of_nonneg (-x) (by omega)]
    rw [e]
    have h1 := Int.mul_ediv_add_emod (-x) (-y)
    have h2 := Int.emod_nonneg (-x) (show (-y) ≠ 0 by omega)
    have h3 := Int.emod_lt_of_pos (-x) (show 0 < -y by omega)
    have h4 : -x / -y * y = -(-y * (-x / -y)) := by rw [Int.neg_mul, Int.neg_neg, Int.mul_comm]
    omega
  · have e : x.fdiv y = x / y := Int.fdiv_eq_ediv_of_nonneg x (by omega)
    rw [e]
    have h1 := Int.mul_ediv_add_emod x y
    have h2 := Int.emod_nonneg x (show y ≠ 0 by omega)
    have h3 := Int.emod_lt_of_pos x k
    have h4 : x / y * y = y * (x / y) := Int.mul_comm ..
    omega
theorem rest_le {t b t2 b2 : Int} (hb : 0 < b) (hb2 : 0 < b2) (h : t2 ≠ 0) : (rN t b t2 b2).natAbs ≤ (b * t2).natAbs := by
  have hy : b * t2 ≠ 0 := Int.mul_ne_zero (Int.ne_of_gt hb) h
  have eF : fQ t b t2 b2 = (t * b2).fdiv (b * t2) := (fdiv_nu hy).symm
  have h1 : (1 : Int) * b2 ≠ 0 := by omega
  have c := nu_cross (x := fQ t b t2 b2 * t2) h1
  have eT : rT t b t2 b2 = Nu (fQ t b t2 b2 * t2) (1 * b2) := rfl
  have eB : rB t b t2 b2 = De (fQ t b t2 b2 * t2) (1 * b2) := rfl
  rw [← eT, ← eB, Int.one_mul] at c
  have pB : 0 < rB t b t2 b2 := (lo_nu (t := fQ t b t2 b2 * t2) h1).pos
  have lB : (rB t b t2 b2).natAbs ≤ b2.natAbs := by
    have := de_le (fQ t b t2 b2 * t2) (1 * b2) h1
    rw [← eB, Int.one_mul] at this
    exact this
  have fr := frest (x := t * b2) hy
  rw [← eF] at fr
  have e : rN t b t2 b2 * b2 = rB t b t2 b2 * (t * b2 - fQ t b t2 b2 * (b * t2)) := by
    show (t * rB t b t2 b2 - rT t b t2 b2 * b) * b2 = _
    rw [Int.sub_mul, Int.mul_sub]
    have a1 : t * rB t b t2 b2 * b2 = rB t b t2 b2 * (t * b2) := by
      rw [Int.mul_comm t, Int.mul_assoc]
    have a2 : rT t b t2 b2 * b * b2 = rB t b t2 b2 * (fQ t b t2 b2 * (b * t2)) := by
      rw [Int.mul_assoc, Int.mul_comm b, ← Int.mul_assoc, c]
      rw [Int.mul_comm _ (rB t b t2 b2), Int.mul_assoc, Int.mul_assoc, Int.mul_comm t2]
    rw [a1, a2]
  have e2 : (rN t b t2 b2).natAbs * b2.natAbs = (rB t b t2 b2).natAbs * (t * b2 - fQ t b t2 b2 * (b * t2)).natAbs := by
    rw [← Int.natAbs_mul, e, Int.natAbs_mul]
  have p2 : 0 < b2.natAbs := by omega
  refine Nat.le_of_mul_le_mul_right (c := b2.natAbs) ?_ p2
  rw [e2, Nat.mul_comm]
  exact Nat.mul_le_mul fr lB
/-- the sizes of a rest -/
theorem sz_rest {t b t2 b2 : Int} {i j k : Nat} (hb : 0 < b) (hb2 : 0 < b2) (h : t2 ≠ 0) (zb : Sz i b) (z2 : Sz j t2) (zb2 : Sz k b2) : Sz (i + j) (Nu (rN t b t2 b2) (rD t b t2 b2)) ∧ Sz (i + k) (De (rN t b t2 b2) (rD t b t2 b2)) ∧ Lo (Nu (rN t b t2 b2) (rD t b t2 b2)) (De (rN t b t2 b2) (rD t b t2 b2)) := by
  have h1 : (1 : Int) * b2 ≠ 0 := by omega
  have eB : rB t b t2 b2 = De (fQ t b t2 b2 * t2) (1 * b2) := rfl
  have pB : 0 < rB t b t2 b2 := (lo_nu (t := fQ t b t2 b2 * t2) h1).pos
  have lB : (rB t b t2 b2).natAbs ≤ b2.natAbs := by
    have := de_le (fQ t b t2 b2 * t2) (1 * b2) h1
    rw [← eB, Int.one_mul] at this
    exact this
  have nD : rD t b t2 b2 ≠ 0 := Int.mul_ne_zero (Int.ne_of_gt hb) (Int.ne_of_gt pB)
  have zN : Sz (i + j) (rN t b t2 b2) := sz_le (sz_mul zb z2) (rest_le hb hb2 h)
  have zD : Sz (i + k) (rD t b t2 b2) := sz_mul zb (sz_le zb2 lB)
  exact ⟨sz_nu nD zN, sz_de nD zD, lo_nu nD⟩
end Ly

namespace Ly
open PySem PySem.Spec PyProof.Rows L2
section
variable {σ : L2.St} {H : Hp} {tt uu : TT} {b c : Bool} {D : Ends}
theorem i_andB {Q : Bool → Hp → Prop} (h1 : ∀ Q : Bool → Hp → Prop, Q b H → tt σ H Q) (h2 : ∀ Q : Bool → Hp → Prop, Q c H → uu σ H Q) (q : Q (b && c) H) : tAnd tt uu σ H Q := by
  refine h1 _ ?_
  show if b = true then uu σ H Q else Q false H
  cases b with
  | true => exact iteT (h2 _ q)
  | false => exact iteF q
theorem i_orB {Q : Bool → Hp → Prop} (h1 : ∀ Q : Bool → Hp → Prop, Q b H → tt σ H Q) (h2 : ∀ Q : Bool → Hp → Prop, Q c H → uu σ H Q) (q : Q (b || c) H) : tOr tt uu σ H Q := by
  refine h1 _ ?_
  show if b = true then Q true H else uu σ H Q
  cases b with
  | true => exact iteT q
  | false => exact iteF (h2 _ q)
theorem i_band {p q A B : Prop} [Decidable p] [Decidable q] (h1 : p → ¬ q → A) (h2 : B) : if (decide p && !decide q) = true then A else B := by
  by_cases hp : p
  · by_cases hq : q
    · rw [decide_eq_true hp, decide_eq_true hq]
      exact iteF h2
    · rw [decide_eq_true hp, decide_eq_false hq]
      exact iteT (h1 hp hq)
  · rw [decide_eq_false hp]
    exact iteF h2
/-! ### for .. in range(n) -/
def rFor (j : Nat) (tb : TS) (D : Ends) (σ : L2.St) : List V → Hp → Prop := fun vs H1 => ∃ k, vs = [.int k] ∧ -2 ^ 62 ≤ k ∧ k < 2 ^ 62 ∧ ∃ W : Nat → Nat → L2.St → Hp → Prop, (∃ m, W 0 m σ H1) ∧ ∀ (i m : Nat) (σ : L2.St) (H : Hp), W i m σ H → (Itr 0 k.toNat).stop i H ∧ D.nx σ H ∨ (Itr 0 k.toNat).go i H ∧ ∃ N, (∀ (σ' : L2.St) (H' : Hp), N σ' H' → ∃ m', m' < m ∧ W (i + 1) m' σ' H') ∧ ∀ (x : V) (H' : Hp), (Itr 0 k.toNat).yld i H x H' → gName j x σ H' fun σ2 H2 => tb { nx := N, rt := D.rt, bk := D.nx, ct := N } σ2 H2
theorem i_for {j : Nat} {tb : TS} {ta : TA} (q : ta σ H fun vs H1 => rFor j tb D σ vs H1) : tFor (iRng1 ta) (gName j) tb D σ H := q
theorem i_rfor {j : Nat} {tb : TS} {n : Int} (h0 : 0 ≤ n) (h1 : n ≤ 1000) (J : Nat → L2.St → Hp → Prop) (start : J 0 σ H)
    (step : ∀ (i : Nat) σ' H', (i : Int) < n → J i σ' H' → tb { nx := J (i + 1), rt := D.rt, bk := D.nx, ct := J (i + 1) } (σ'.set j (some (.int (i : Int)))) H')
    (fin : ∀ σ' H', J n.toNat σ' H' → D.nx σ' H') : rFor j tb D σ [.int n] H := by
  refine ⟨n, rfl, by omega, by omega, fun i m σ' H' => m = n.toNat - i ∧ i ≤ n.toNat ∧ J i σ' H', ⟨_, rfl, Nat.zero_le _, start⟩, ?_⟩
  rintro i m σ' H' ⟨rfl, hi, hJ⟩
  by_cases h : i < n.toNat
  · refine .inr ⟨h, J (i + 1), fun σ2 H2 h2 => ⟨_, ?_, rfl, h, h2⟩, ?_⟩
    · omega
    · rintro x H2 ⟨rfl, rfl⟩
      have e : (0 : Int) + (i : Int) = (i : Int) := Int.zero_add _
      rw [e]
      exact step i σ' H2 (by omega) hJ
  · have e : i = n.toNat := by omega
    subst e
    exact .inl ⟨Nat.le_refl _, fin σ' H' hJ⟩
end
end Ly
namespace Ly
open PySem PySem.Spec PyProof.Rows L2
theorem Num.nl {C : Addr} {H H' : Hp} {v : V} {t b : Int} (s : NL H H') (r : Num C H v t b) : Num C H' v t b := by
  rcases r with r | ⟨a, e, r⟩
  · exact .inl r
  · exact .inr ⟨a, e, r.nl s⟩
/-- all but one list stays -/
def KL (l : Addr) (H H' : Hp) : Prop := ∀ c o, c ≠ l → H c = some o → H' c = some o
theorem Same.kl {l : Addr} {H0 H H' : Hp} (k : KL l H H') (n : H0 l = none) (s : Same H0 H) : Same H0 H' := fun c o e => k c o (ne_of_none e n) (s _ _ e)
section
variable {K : PySem.W.Frag} {H : Hp} {Q : VK} {σ : L2.St} {D : Ends} {l : Addr} {xs : List V} {m : Nat} {v : V}
theorem i_getL (h : SqL K H l xs) (e : xs[m]? = some v) (q : Q v H) : rGetL K (.ref l) (.int m) H Q := ⟨l, xs, m, v, rfl, rfl, h, e, q⟩
theorem i_augS {to ti te : TE} {tget : V → V → Hp → VK → Prop} {tip : TIp} {tset : TSet} (q : to σ H fun o H1 => ti σ H1 fun i H2 => tget o i H2 fun x H3 => te σ H3 fun y H4 => tip x y H4 fun z H5 => tset o i z H5 fun H6 => D.nx σ H6) : tAugS to ti te tget tip tset D σ H := q
theorem i_aug {i : Nat} {x : V} {te : TE} {ti : TIp} (h : σ[i]? = some (some x)) (q : te σ H fun y H1 => ti x y H1 fun z H2 => D.nx (σ.set i (some z)) H2) : tAug i te ti D σ H := ⟨x, h, q⟩
theorem i_setL {R : Hp → Prop} {ys : List V} {i : Int} {j : Nat} (h : H l = some (.lst xs)) (e : ixN xs.length i = some j) (hy : xs.set j v = ys) (q : ∀ H', NL H H' → KL l H H' → H' l = some (.lst ys) → R H') : rSetL (.ref l) (.int i) v H R := by
  subst hy
  exact ⟨l, xs, i, j, rfl, rfl, h, e, q _ (NL.upd h) (fun c o n e => by rw [upd_ne n]; exact e) upd_same⟩
end
end Ly

namespace Ly
open PySem PySem.Spec PyProof.Rows L2
theorem str_ext {x y : Str} (h : x.cps.toList = y.cps.toList) : x = y := by
  cases x
  cases y
  congr 1
  exact Array.toList_inj.mp h
theorem app_toList (x y : Str) : (x ++ y).cps.toList = x.cps.toList ++ y.cps.toList := by
  show (x.cps ++ y.cps).toList = _
  exact Array.toList_append
theorem it_nat (n : Nat) : (It (n : Int)).cps.toList = TL.numL n := TL.tl_num n
theorem it_neg {n : Nat} (h : 0 < n) : (It (-(n : Int))).cps.toList = 45 :: TL.numL n := by
  have e : toString (-(n : Int)) = "-" ++ toString n := by
    cases n with
    | zero => omega
    | succ k => rfl
  have e2 : (Str.ofStringByList (toString n)).cps.toList = TL.numL n := by
    rw [← Str.ofString_eq_byList]
    exact TL.tl_num n
  unfold It
  rw [e, Str.ofString_eq_byList]
  unfold Str.ofStringByList at *
  simp only [String.toList_append, List.map_append]
  simp only [List.toList_toArray] at *
  rw [e2]
  rfl
/-- what stands ahead of the digits, and the digits -/
theorem it_cases (i : Int) : (0 ≤ i ∧ (It i).cps.toList = TL.numL i.natAbs) ∨ (i < 0 ∧ (It i).cps.toList = 45 :: TL.numL i.natAbs) := by
  rcases Int.lt_or_le i 0 with h | h
  · refine .inr ⟨h, ?_⟩
    have := it_neg (n := i.natAbs) (by omega)
    rw [show -(i.natAbs : Int) = i by omega] at this
    exact this
  · refine .inl ⟨h, ?_⟩
    have := it_nat i.natAbs
    rw [show (i.natAbs : Int) = i by omega] at this
    exact this
theorem it_free {i : Int} : 47 ∉ (It i).cps.toList := PyProof.Rows.int_text_free' 47 (by omega) i
theorem slash_cps : ("/" : Str).cps.toList = [47] := by decide +kernel
theorem minus_cps : ("-" : Str).cps.toList = [45] := by decide +kernel
theorem slash_one : ("/" : Str) = ⟨#[47]⟩ := by decide +kernel
/-! ### x.partition("/") -/
theorem split_one {l1 l2 m1 m2 : List Nat} {c : Nat} (h : l1 ++ c :: l2 = m1 ++ c :: m2) (h1 : c ∉ m1) (h2 : c ∉ m2) : l1 = m1 ∧ l2 = m2 := by
  induction l1 generalizing m1 with
  | nil =>
    cases m1 with
    | nil => exact ⟨rfl, (List.cons.inj h).2⟩
    | cons a m =>
      have := (List.cons.inj h).1
      subst this
      exact absurd (List.mem_cons_self ..) h1
  | cons a l ih =>
    cases m1 with
    | nil =>
      have e := (List.cons.inj h).2
      refine absurd ?_ h2
      rw [← e]
      simp
    | cons a' m =>
      have e := List.cons.inj h
      obtain ⟨e1, e2⟩ := ih e.2 (fun z => h1 (List.mem_cons_of_mem _ z))
      exact ⟨by rw [e.1, e1], e2⟩
theorem part_no {x : Str} (h : 47 ∉ x.cps.toList) : Txt.partition x ("/" : Str) = (x, Str.empty, Str.empty) := by
  have e := PyProof.Rows.empty_one x 47
  rw [decide_eq_false h, ← slash_one] at e
  unfold Txt.partition
  cases o : Builtin.Str.occurrences x ("/" : Str) 0 x.length 1 with
  | nil => rfl
  | cons i t =>
    rw [o] at e
    cases e
theorem part_yes {x p r : Str} (hx : x = p ++ ("/" : Str) ++ r) (h1 : 47 ∉ p.cps.toList) (h2 : 47 ∉ r.cps.toList) : Txt.partition x ("/" : Str) = (p, ("/" : Str), r) := by
  have mem : 47 ∈ x.cps.toList := by
    rw [hx, app_toList, app_toList, slash_cps]
    simp
  have e := PyProof.Rows.empty_one x 47
  rw [decide_eq_true mem, ← slash_one] at e
  have s := StrLaws.partition_sum x ("/" : Str)
  have y : (Txt.partition x ("/" : Str)).2.1 = ("/" : Str) := by
    unfold Txt.partition
    cases o : Builtin.Str.occurrences x ("/" : Str) 0 x.length 1 with
    | nil =>
      rw [o] at e
      cases e
    | cons i t => rfl
  rw [y] at s
  have l : (((Txt.partition x ("/" : Str)).1 ++ ("/" : Str)) ++ (Txt.partition x ("/" : Str)).2.2).cps.toList = x.cps.toList := congrArg (fun z : Str => z.cps.toList) s
  rw [hx, app_toList, app_toList, app_toList, app_toList, slash_cps] at l
  rw [List.append_assoc, List.append_assoc] at l
  obtain ⟨a1, a2⟩ := split_one l h1 h2
  rw [← hx] at a1 a2
  refine Prod.ext (str_ext a1) (Prod.ext y (str_ext a2))
/-! ### x.removeprefix("-") -/
theorem pre_no {x : Str} {c : Nat} {cs : List Nat} (h : x.cps.toList = c :: cs) (n : c ≠ 45) : Txt.removeprefix x ("-" : Str) = x := by
  unfold Txt.removeprefix
  have e : Builtin.Str.subAt x ("-" : Str) 0 = false := by
    unfold Builtin.Str.subAt
    rw [beq_eq_false_iff_ne]
    intro z
    have l := congrArg Array.toList z
    rw [minus_cps] at l
    rw [Array.toList_extract] at l
    have ml : ("-" : Str).length = 1 := by decide +kernel
    rw [ml] at l
    simp [h, List.extract] at l
    exact n l
  rw [if_neg (by rw [e]; exact Bool.false_ne_true)]
  rfl
theorem pre_yes {x : Str} {cs : List Nat} (h : x.cps.toList = 45 :: cs) : (Txt.removeprefix x ("-" : Str)).cps.toList = cs := by
  have ml : ("-" : Str).length = 1 := by decide +kernel
  have xl : x.length = cs.length + 1 := by
    show x.cps.size = _
    rw [← Array.length_toList, h]
    rfl
  have e : Builtin.Str.subAt x ("-" : Str) 0 = true := by
    unfold Builtin.Str.subAt
    rw [beq_iff_eq]
    apply Array.toList_inj.mp
    rw [minus_cps, Array.toList_extract, ml]
    simp [h, List.extract]
  unfold Txt.removeprefix
  rw [if_pos e, ml]
  unfold Txt.affix
  simp only
  rw [if_neg (by rw [xl]; simp)]
  unfold Builtin.Str.strSub
  simp only
  rw [Array.toList_extract, h, xl]
  simp [List.extract]
theorem same_upd {H : Hp} {p : Addr} {o : HO} (n : H p = none) : Same H (upd H p o) := fun c u e => by
  rw [upd_ne (ne_of_none e n)]
  exact e
end Ly

namespace Ly
open PySem PySem.Spec PyProof.Rows L2
theorem Dr.nl {p : Addr} {H H' : Hp} (k : Dr p H H') : NL H H' := fun q o n e => k.keep q o (k.ne e fun a b z => n _ z) e
theorem Dr.upd {p q : Addr} {H H' : Hp} {o : HO} (k : Dr p H H') (h : H q = none) (n : q ≠ p) : Dr p H (upd H' q o) := k.mut h n
/-! ### comprehensions, staged: the iterator first -/
section
variable {K : PySem.W.Frag} {σ : L2.St} {H : Hp} {Q : VK} {te : TE} {tt : TT} {p : Addr} {xs : List V} {n j : Nat} {vs : List Nat}
def rLc (J : L2.It) (g : TG) (tt : TT) (te : TE) (vs : List Nat) (σ : L2.St) (H1 : Hp) (Q : VK) : Prop := ∀ D : Addr, H1 D = none → ∃ W : Nat → Nat → Hp → Prop, (∃ m, W 0 m (L2.upd H1 D (.lst []))) ∧ ∀ (i m : Nat) (H : Hp), W i m H → J.stop i H ∧ Q (.ref D) H ∨ J.go i H ∧ ∃ Nx : Hp → Prop, (∀ H', Nx H' → ∃ m', m' < m ∧ W (i + 1) m' H') ∧
  ∀ (x : V) (H' : Hp), J.yld i H x H' → g x (wipe σ vs) H' fun σ2 H2 => wipe σ2 vs = wipe σ vs ∧ tt σ2 H2 fun b H3 => if b = true then te σ2 H3 fun y H4 => ∃ acc, H4 D = some (.lst acc) ∧ acc.length < sizeLine ∧ Nx (L2.upd H4 D (.lst (acc ++ [y]))) else Nx H3
def rLcR (g : TG) (tt : TT) (te : TE) (ws : List Nat) (σ : L2.St) : List V → Hp → VK → Prop := fun vs H1 Q => ∃ k, vs = [.int k] ∧ -2 ^ 62 ≤ k ∧ k < 2 ^ 62 ∧ rLc (Itr 0 k.toNat) g tt te ws σ H1 Q
theorem i_lcr {g : TG} {ta : TA} (q : ta σ H fun vs' H1 => rLcR g tt te vs σ vs' H1 Q) : tLc (iRng1 ta) g tt te vs σ H Q := q
def rLcL (K : PySem.W.Frag) (g : TG) (tt : TT) (te : TE) (ws : List Nat) (σ : L2.St) : V → Hp → VK → Prop := fun x H1 Q => ∃ a, x = .ref a ∧ (∃ xs, SqL K H1 a xs) ∧ rLc (Itl K a) g tt te ws σ H1 Q
theorem i_lcl {g : TG} {tl : TE} (q : tl σ H fun x H1 => rLcL K g tt te vs σ x H1 Q) : tLc (iList K tl) g tt te vs σ H Q := q
/-- over a range, drawing -/
theorem i_rlcRp {m : Int} (G : Nat → Hp → V → Prop) (hp : Pot H p) (h0 : 0 ≤ m) (h1 : m ≤ 1000) (mono : ∀ i H1 H2 v, NL H1 H2 → G i H1 v → G i H2 v) (hw : ∀ x, wipe ((wipe σ vs).set j (some x)) vs = wipe σ vs)
    (turn : ∀ (i : Nat) H' (Q' : VK), (i : Int) < m → Dr p H H' → (∀ y H4, Dr p H' H4 → G i H4 y → Q' y H4) → te ((wipe σ vs).set j (some (.int (i : Int)))) H' Q')
    (fin : ∀ r H' ys, H r = none → Dr p H H' → H' r = some (.lst ys) → ys.length = m.toNat → (∀ i v, ys[i]? = some v → G i H' v) → Q (.ref r) H') : rLcR (gName j) tYes te vs σ [.int m] H Q := by
  refine ⟨m, rfl, by omega, by omega, fun D nD => ?_⟩
  have ne := fresh_ne hp nD
  have d0 : Dr p H (L2.upd H D (.lst [])) := (Dr.refl hp).mut nD ne
  refine lc_range (lo := 0) (n := m.toNat) (fun i H' => ∃ ys, H' D = some (.lst ys) ∧ ys.length = i ∧ i ≤ m.toNat ∧ Dr p H H' ∧ ∀ k v, ys[k]? = some v → G k H' v)
    ⟨[], upd_same, rfl, Nat.zero_le _, d0, fun m v e => by simp at e⟩ ?_ ?_
  · rintro i H' hi ⟨ys, hD, hy, hle, d, g⟩
    have e0 : (0 : Int) + (i : Int) = (i : Int) := Int.zero_add _
    rw [e0]
    refine ⟨hw _, ?_⟩
    show te ((wipe σ vs).set j (some (.int (i : Int)))) H' _
    refine turn i H' _ (by omega) d fun y H4 d4 gy => ?_
    have hD4 := d4.keep D _ ne hD
    refine ⟨ys, hD4, by rw [hy]; exact small1000 (by omega), ys ++ [y], upd_same, by rw [List.length_append, hy]; rfl, hi, (d.trans d4).mut nD ne, fun k v e => ?_⟩
    have kk := NL.upd (ys := ys ++ [y]) hD4
    rcases Nat.lt_or_ge k ys.length with h | h
    · rw [List.getElem?_append_left h] at e
      exact mono k _ _ v kk (mono k _ _ v d4.nl (g k v e))
    · rw [List.getElem?_append_right h] at e
      have : k - ys.length = 0 := by
        have := (List.getElem?_eq_some_iff.mp e).1
        simp at this
        omega
      rw [this] at e
      have e2 : y = v := Option.some.inj e
      subst e2
      have : k = i := by omega
      subst this
      exact mono _ _ _ y kk gy
  · rintro H' ⟨ys, hD, hy, _, d, g⟩
    exact fin D H' ys nD d hD hy g
/-- over a list, drawing -/
theorem i_rlcLp {l : Addr} (G : Nat → Hp → V → Prop) (hp : Pot H p) (hl : H l = some (.lst xs)) (nl : l ≠ p) (hz : xs.length ≤ 1000) (mono : ∀ i H1 H2 v, NL H1 H2 → G i H1 v → G i H2 v) (hw : ∀ x, wipe ((wipe σ vs).set j (some x)) vs = wipe σ vs)
    (turn : ∀ (i : Nat) x H' (Q' : VK), xs[i]? = some x → Dr p H H' → (∀ y H4, Dr p H' H4 → G i H4 y → Q' y H4) → te ((wipe σ vs).set j (some x)) H' Q')
    (fin : ∀ r H' ys, H r = none → Dr p H H' → H' r = some (.lst ys) → ys.length = xs.length → (∀ i v, ys[i]? = some v → G i H' v) → Q (.ref r) H') : rLcL K (gName j) tYes te vs σ (.ref l) H Q := by
  refine ⟨l, rfl, ⟨xs, SqL.of hl⟩, fun D nD => ?_⟩
  have ne := fresh_ne hp nD
  have d0 : Dr p H (L2.upd H D (.lst [])) := (Dr.refl hp).mut nD ne
  refine lc_list (K := K) (a := l) (xs := xs) (fun i H' => ∃ ys, H' D = some (.lst ys) ∧ ys.length = i ∧ i ≤ xs.length ∧ Dr p H H' ∧ ∀ k v, ys[k]? = some v → G k H' v)
    ⟨[], upd_same, rfl, Nat.zero_le _, d0, fun m v e => by simp at e⟩ (fun i H' _ ⟨_, _, _, _, d, _⟩ => SqL.of (d.keep _ _ nl hl)) ?_ ?_
  · rintro i x H' hi ⟨ys, hD, hy, hle, d, g⟩
    have hlt : i < xs.length := (List.getElem?_eq_some_iff.mp hi).1
    refine ⟨hw _, ?_⟩
    show te ((wipe σ vs).set j (some x)) H' _
    refine turn i x H' _ hi d fun y H4 d4 gy => ?_
    have hD4 := d4.keep D _ ne hD
    refine ⟨ys, hD4, by rw [hy]; exact small1000 (by omega), ys ++ [y], upd_same, by rw [List.length_append, hy]; rfl, hlt, (d.trans d4).mut nD ne, fun k v e => ?_⟩
    have kk := NL.upd (ys := ys ++ [y]) hD4
    rcases Nat.lt_or_ge k ys.length with h | h
    · rw [List.getElem?_append_left h] at e
      exact mono k _ _ v kk (mono k _ _ v d4.nl (g k v e))
    · rw [List.getElem?_append_right h] at e
      have : k - ys.length = 0 := by
        have := (List.getElem?_eq_some_iff.mp e).1
        simp at this
        omega
      rw [this] at e
      have e2 : y = v := Option.some.inj e
      subst e2
      have : k = i := by omega
      subst this
      exact mono _ _ _ y kk gy
  · rintro H' ⟨ys, hD, hy, _, d, g⟩
    exact fin D H' ys nD d hD hy g
/-- over a list, filtered, nothing changes but what is new -/
theorem i_rlcF {l : Addr} (P : V → Bool) (f : V → V) (hl : SqL K H l xs) (keep : ∀ H', Same H H' → SqL K H' l xs) (hz : xs.length ≤ 1000) (hw : ∀ x, wipe ((wipe σ vs).set j (some x)) vs = wipe σ vs)
    (test : ∀ x H' (R : Bool → Hp → Prop), x ∈ xs → Same H H' → R (P x) H' → tt ((wipe σ vs).set j (some x)) H' R)
    (elt : ∀ x H' (Q' : VK), x ∈ xs → P x = true → Same H H' → (∀ H4, Same H' H4 → Q' (f x) H4) → te ((wipe σ vs).set j (some x)) H' Q')
    (fin : ∀ r H', H r = none → Same H H' → H' r = some (.lst ((xs.filter P).map f)) → Q (.ref r) H') : rLcL K (gName j) tt te vs σ (.ref l) H Q := by
  refine ⟨l, rfl, ⟨xs, hl⟩, fun D nD => ?_⟩
  have same0 : Same H (L2.upd H D (.lst [])) := fun c o e => by
    rw [upd_ne (ne_of_none e nD)]
    exact e
  refine lc_list (K := K) (a := l) (xs := xs) (fun i H' => H' D = some (.lst (((xs.take i).filter P).map f)) ∧ Same H H') ⟨by simp [upd_same], same0⟩ (fun i H' _ h => keep H' h.2) ?_ ?_
  · rintro i x H' hi ⟨hD, s⟩
    have hlt : i < xs.length := (List.getElem?_eq_some_iff.mp hi).1
    have hx : x ∈ xs := List.mem_of_getElem? hi
    have ht : xs.take (i + 1) = xs.take i ++ [x] := by
      rw [List.take_add_one, hi]
      rfl
    have hle : (((xs.take i).filter P).map f).length < sizeLine := by
      rw [List.length_map]
      have h1 := List.length_filter_le P (xs.take i)
      have h2 := List.length_take_le i xs
      exact small1000 (by omega)
    refine ⟨hw _, ?_⟩
    show tt ((wipe σ vs).set j (some x)) H' _
    refine test x H' _ hx s ?_
    by_cases hP : P x = true
    · rw [if_pos hP]
      refine elt x H' _ hx hP s fun H4 s4 => ⟨_, s4 _ _ hD, hle, ?_, ?_⟩
      · rw [ht, List.filter_append, List.map_append, List.filter_cons, if_pos hP]
        exact upd_same
      · intro c o e
        rw [upd_ne (ne_of_none e nD)]
        exact s4 _ _ (s _ _ e)
    · rw [if_neg hP]
      refine ⟨?_, s⟩
      rw [ht, List.filter_append, List.map_append, List.filter_cons, if_neg hP]
      simpa using hD
  · rintro H' ⟨hD, s⟩
    rw [List.take_length] at hD
    exact fin D H' nD s hD
/-- over a range, nothing changes but what is new -/
theorem i_rlcRF {m : Int} (f : Nat → V) (h0 : 0 ≤ m) (h1 : m ≤ 1000) (hw : ∀ x, wipe ((wipe σ vs).set j (some x)) vs = wipe σ vs)
    (elt : ∀ (i : Nat) H' (Q' : VK), (i : Int) < m → Same H H' → (∀ H4, Same H' H4 → Q' (f i) H4) → te ((wipe σ vs).set j (some (.int (i : Int)))) H' Q')
    (fin : ∀ r H', H r = none → Same H H' → H' r = some (.lst ((List.range m.toNat).map f)) → Q (.ref r) H') : rLcR (gName j) tYes te vs σ [.int m] H Q := by
  refine ⟨m, rfl, by omega, by omega, fun D nD => ?_⟩
  have same0 : Same H (L2.upd H D (.lst [])) := fun c o e => by
    rw [upd_ne (ne_of_none e nD)]
    exact e
  refine lc_range (lo := 0) (n := m.toNat) (fun i H' => i ≤ m.toNat ∧ H' D = some (.lst ((List.range i).map f)) ∧ Same H H') ⟨Nat.zero_le _, by simp [upd_same], same0⟩ ?_ ?_
  · rintro i H' hi ⟨hle, hD, s⟩
    have e0 : (0 : Int) + (i : Int) = (i : Int) := Int.zero_add _
    rw [e0]
    refine ⟨hw _, ?_⟩
    show te ((wipe σ vs).set j (some (.int (i : Int)))) H' _
    refine elt i H' _ (by omega) s fun H4 s4 => ⟨_, s4 _ _ hD, ?_, hi, ?_, ?_⟩
    · rw [List.length_map, List.length_range]
      exact small1000 (by omega)
    · rw [List.range_succ, List.map_append]
      exact upd_same
    · intro c o e
      rw [upd_ne (ne_of_none e nD)]
      exact s4 _ _ (s _ _ e)
  · rintro H' ⟨_, hD, s⟩
    exact fin D H' nD s hD
end
/-! ### lists of texts -/
section
variable {K : PySem.W.Frag} {σ : L2.St} {H : Hp} {Q : VK} {l : Addr} {xs : List V} {ys : List Str} {x y : Str} {v : V} {ta tb : TE} {t : TA}
theorem inV_strs (x : Str) (ys : List Str) : inV (.str x) (ys.map V.str) = decide (x ∈ ys) := by
  induction ys with
  | nil => rfl
  | cons y ys ih =>
    have e : inV (.str x) ((y :: ys).map V.str) = (y == x || inV (.str x) (ys.map V.str)) := rfl
    rw [e, ih]
    by_cases h : y = x
    · subst h
      simp
    · have h2 : ¬ x = y := fun z => h z.symm
      simp [h, h2]
theorem flat_strs (ys : List Str) : (ys.map V.str).all flatV = true := by
  induction ys with
  | nil => rfl
  | cons y ys ih => simp [flatV] at ih ⊢
theorem i_inS (h : H l = some (.lst (ys.map V.str))) (q : Q (.bl (decide (x ∈ ys))) H) : rIn K false (.str x) (.ref l) H Q := ⟨l, _, rfl, .inl (SqL.of h), rfl, flat_strs ys, by rw [inV_strs]; exact q⟩
theorem i_niS (h : H l = some (.lst (ys.map V.str))) (q : Q (.bl (!decide (x ∈ ys))) H) : rIn K true (.str x) (.ref l) H Q := ⟨l, _, rfl, .inl (SqL.of h), rfl, flat_strs ys, by rw [inV_strs]; exact q⟩
def rJoin (K : PySem.W.Frag) : V → List V → Hp → VK → Prop := fun x xs H Q => ∃ a p, ∃ ys : List Str, x = .str a ∧ xs = [.ref p] ∧ (SqL K H p (ys.map V.str) ∨ SqT K H p (ys.map V.str)) ∧ (ys.map (·.length)).sum + ys.length * a.length ≤ 16777216 ∧ Q (.str (Txt.join a ys)) H
def rM1 (r : V → List V → Hp → VK → Prop) : V → V → Hp → VK → Prop := fun x y H2 Q => r x [y] H2 Q
theorem i_join {a : Str} (h : H l = some (.lst (ys.map V.str))) (z : (ys.map (·.length)).sum + ys.length * a.length ≤ 16777216) (q : Q (.str (Txt.join a ys)) H) : rJoin K (.str a) [.ref l] H Q := ⟨a, l, ys, rfl, rfl, .inl (SqL.of h), z, q⟩
theorem i_tM1 {r : V → List V → Hp → VK → Prop} (q : ta σ H fun x H1 => (∃ a, x = .str a) ∧ tb σ H1 fun y H2 => r x [y] H2 Q) : tM1 r ta tb σ H Q := q
theorem i_tBM {T : String} {r : V → List V → Hp → VK → Prop} (q : ta σ H fun x H1 => tyV K T x H1 ∧ t σ H1 fun vs H2 => r x vs H2 Q) : tBM K T r ta t σ H Q := q
theorem ty_lst (h : H l = some (.lst xs)) : tyV K "list" (.ref l) H := .inl ⟨rfl, _, SqL.of h⟩
theorem i_append (h : H l = some (.lst xs)) (z : xs.length ≤ 1000) (q : ∀ H', NL H H' → KL l H H' → H' l = some (.lst (xs ++ [v])) → Q .non H') : rAppend (.ref l) [v] H Q := ⟨l, xs, v, rfl, rfl, h, small1000 z, q _ (NL.upd h) (fun c o n e => by rw [upd_ne n]; exact e) upd_same⟩
theorem i_popAt {k : Nat} (h : H l = some (.lst xs)) (z : xs.length ≤ 1000) (e : xs[k]? = some v) (q : ∀ H', NL H H' → KL l H H' → H' l = some (.lst (xs.eraseIdx k)) → Q v H') : rPopAt (.ref l) [.int k] H Q := by
  have hk : k < xs.length := (List.getElem?_eq_some_iff.mp e).1
  refine ⟨l, xs, (k : Int), k, v, rfl, rfl, h, by omega, by omega, ?_, e, q _ (NL.upd h) (fun c o n e => by rw [upd_ne n]; exact e) upd_same⟩
  unfold seqIndex?
  simp
  omega
theorem i_ixS {z : Str} {c : Nat} {i : Nat} (hz : z.length ≤ 1000) (e : z.cps.toList[i]? = some c) (q : Q (.str ⟨#[c]⟩) H) : rIx K (.str z) (.int i) H Q := .inr (.inr ⟨z, (i : Int), c, rfl, rfl, Nat.le_of_lt (small1000 hz), atI_nat e, q⟩)
end
section
variable {X : Cx} {K : PySem.W.Frag} {o e : Expr} {es : List Expr} {to te : TE} {t : TA} {name : Str} {apos cpos : Pos} {T id : String} {r : V → List V → Hp → VK → Prop}
theorem pe_bmK (hK : X.K = K) (pa : PlainAttrs T) (sl : Slot T name id) (ty : typeOf (Value.builtin id) = pure (Value.type "method_descriptor")) (m : MtR X id r) (he : PE X o to) (ha : PA X (e :: es) t)
    (h1 : attributeBase o name X.env (eval o X.env) = eval o X.env := by rfl)
    (h2 : (((backTo cpos (starEach (e :: es) X.env)).all fun x => !x.1) && ((backToKw cpos (keywordEach [] X.env)).all fun x => x.1.isSome) && decide ((e :: es).length + ([] : List Keyword).length + (if ([] : List Keyword).isEmpty = true then 0 else 1) < 30)) = true := by rfl)
    (h3 : (apos.endLine == cpos.line) = true := by rfl) (h4 : starEach (e :: es) X.env = (false, eval e X.env) :: starEach es X.env := by rfl) (h5 : ((backTo cpos (starEach es X.env)).any fun x => x.1) = false := by rfl) :
    PE X (.Call (.Attribute o name apos) (e :: es) [] cpos) (tBM K T r to t) := by
  subst hK
  exact pe_bm pa sl ty m he ha h1 h2 h3 h4 h5
theorem pe_joinK (hK : X.K = K) (he : PE X o to) (ha : PE X e te) (h4 : starEach [e] X.env = [(false, eval e X.env)] := by rfl)
    (h1 : attributeBase o "join" X.env (eval o X.env) = eval o X.env := by rfl) (h3 : (apos.endLine == cpos.line) = true := by rfl) :
    PE X (.Call (.Attribute o "join" apos) [e] [] cpos) (tM1 (rJoin K) to te) := by
  subst hK
  exact pe_join he ha h4 h1 h3
theorem pi_listK {tg : Expr} (hK : X.K = K) (he : PE X e te) : PI X tg e (iList K te) := by
  subst hK
  exact pi_list he
end
def rListOf (K : PySem.W.Frag) : List V → Hp → VK → Prop := fun xs H Q => ∃ p ys, xs = [.ref p] ∧ (SqL K H p ys ∨ SqT K H p ys) ∧ ∀ l : Addr, H l = none → Q (.ref l) (upd H l (.lst ys))
theorem call_listU {X : Cx} : CallR X (.type "list") (rListOf X.K) := call_list_of
theorem i_listL {K : PySem.W.Frag} {H : Hp} {Q : VK} {p : Addr} {ys : List V} (h : H p = some (.lst ys)) (q : ∀ l H', H l = none → H' l = some (.lst ys) → Same H H' → Q (.ref l) H') : rListOf K [.ref p] H Q := ⟨p, ys, rfl, .inl (SqL.of h), i_new q⟩
theorem i_yes {σ : L2.St} {H : Hp} {R : Bool → Hp → Prop} (q : R true H) : tYes σ H R := q
theorem erase_perm {α : Type} : ∀ {xs : List α} {k : Nat} (h : k < xs.length), ([xs[k]] ++ xs.eraseIdx k).Perm xs
  | x :: xs, 0, _ => List.Perm.refl _
  | x :: xs, k + 1, h => by
    have hk : k < xs.length := by simpa using h
    have ih := erase_perm (xs := xs) (k := k) hk
    show (xs[k] :: x :: xs.eraseIdx k).Perm (x :: xs)
    exact (List.Perm.swap x xs[k] _).trans (ih.cons x)
theorem i_bor {p q A B : Prop} [Decidable p] [Decidable q] (h1 : A) (h2 : ¬ p → ¬ q → B) : if (decide p || decide q) = true then A else B := by
  by_cases hp : p
  · rw [decide_eq_true hp]
    exact iteT h1
  · by_cases hq : q
    · rw [decide_eq_true hq, Bool.or_true]
      exact iteT h1
    · rw [decide_eq_false hp, decide_eq_false hq]
      exact iteF (h2 hp hq)
section
variable {σ : L2.St} {H : Hp} {Q : VK} {K : PySem.W.Frag} {te : TE} {tl th : TO} {r : V → Option Int → Option Int → Hp → VK → Prop} {p : Addr} {xs : List V}
theorem i_sl (q : te σ H fun x H1 => tl σ H1 fun l H2 => th σ H2 fun u H3 => r x l u H3 Q) : tSl r te tl th σ H Q := q
theorem i_noPart {R : Option Int → Hp → Prop} (q : R none H) : tNoPart σ H R := q
theorem cut_to (xs : List V) {n : Nat} (h : n ≤ xs.length) : cutV xs none (some (n : Int)) = xs.take n := by
  unfold cutV HT.sIx
  simp only [Nat.sub_zero, List.drop_zero]
  rw [if_neg (by omega), Int.toNat_natCast, Nat.min_eq_left h]
theorem i_slTo {n : Nat} (h : H p = some (.lst xs)) (z : n ≤ xs.length) (q : ∀ r H', H r = none → H' r = some (.lst (xs.take n)) → Same H H' → Q (.ref r) H') : rSlL K (.ref p) none (some (n : Int)) H Q := ⟨p, xs, rfl, SqL.of h, by rw [cut_to xs z]; exact i_new q⟩
theorem i_part {R : Option Int → Hp → Prop} (q : te σ H fun x H1 => ∃ i, x = .int i ∧ R (some i) H1) : tPart te σ H R := q
end
end Ly

namespace Ly
open PySem PySem.Spec PyProof.Rows L2
/-! ### defs that are called where no repr is under way: then lists may be shown -/
structure FnG (P : Program) (w : World) (K : PySem.W.Frag) (mg : Str → Option Value) (base : Heap) (k : Nat) (f : Addr) (fd : FuncData) (ps : List Str) (sp : Sp) : Prop where
  len : ∀ vs H Q E, sp vs H Q E → vs.length = ps.length
  run : ∀ (A : Around) (outer : List Env) (s : Shared) (H : Hp) (args : Args) (us : List Value) (vs : List V) (Q : VK) (E : XK),
    Room k A → A.guards = some [] → Env0 P w K mg base A outer s H → BindsTo s fd args (ps.zip us) → Vals vs us → sp vs H Q E → codeAny (model P w) A (.call (.ref f) args) (CR CX0 outer P w H s Q E) s
theorem FnG.mono {P : Program} {w : World} {K : PySem.W.Frag} {mg : Str → Option Value} {base : Heap} {k j : Nat} {f : Addr} {fd : FuncData} {ps : List Str} {sp : Sp} (F : FnG P w K mg base k f fd ps sp) (h : k ≤ j) : FnG P w K mg base j f fd ps sp :=
  ⟨F.len, fun A outer s H args us vs Q E hr hg => F.run A outer s H args us vs Q E (hr.mono h) hg⟩
/-- a plain one is one -/
theorem FnG.of {P : Program} {w : World} {K : PySem.W.Frag} {mg : Str → Option Value} {base : Heap} {k : Nat} {f : Addr} {fd : FuncData} {ps : List Str} {sp : Sp} (F : FnOk P w K mg base CX0 k f fd ps sp) : FnG P w K mg base k f fd ps sp :=
  ⟨F.len, fun A outer s H args us vs Q E hr _ => F.run A outer s H args us vs Q E hr⟩
theorem fng_of {P : Program} {w : World} {K : PySem.W.Frag} {mg : Str → Option Value} {base : Heap} {k : Nat} {f : Addr} {name qual : Str} {params : Arguments} {body : List Stmt} {scope : Scope} {dV kV doc pm cdv ct oc : Value} {an od : Option Addr} {osl : Array (Option Value)} {N ps : List Str} {sp : Sp}
    (lk : K.lookup f = some ⟨oc, od, .func (PySem.W.fnOf name qual params body scope dV kV doc pm an cdv ct), osl⟩) (hcd : PySem.W.codeIn K cdv qual = true) (S : FnScope N ps scope) (len : ∀ vs H Q E, sp vs H Q E → vs.length = ps.length)
    (hbody : ∀ (A : Around) (outer : List Env) (s : Shared) (H : Hp) (vs : List V) (Q : VK) (E : XK), Room k (A.deeper (envOfC qual scope s.heap.objs.size f cdv)) → A.guards = some [] → sp vs H Q E →
      ∃ t, PSs (cxOf CX0 P w K mg base N qual scope f cdv A outer s H E) body t ∧ t { nx := fun _ H' => Q .non H', rt := Q } (L2.start N vs) H) :
    FnG P w K mg base (k + 1) f (PySem.W.fnOf name qual params body scope dV kV doc pm an cdv ct) ps sp := by
  refine ⟨len, fun A outer s H args us vs Q E hr hg e0 hb r hsp => ?_⟩
  have hl := len vs H Q E hsp
  have KX := PySem.W.Frag.In.keeps e0.mod.kin fun b o e => (e0.bs b o e).1
  have lim := Heap.NoLimit.keeps e0.mod.nolimit fun b o e => (e0.bs b o e).1
  have hkind : ∀ x : Str × Value, x ∈ ps.zip us → List.lookup x.1 scope.names = some NameKind.local ∨ List.lookup x.1 scope.names = some NameKind.cell ∧ (List.lookup x.1 (cellsFrom (s.heap.objs.size + 1) scope.names [])).isSome = true := fun x hy => by
    obtain ⟨n, v⟩ := x
    rcases S.par n (List.of_mem_zip hy).1 with q | q
    · exact Or.inl q
    · exact Or.inr ⟨q, PySem.W.cellsFrom_some scope.names (s.heap.objs.size + 1) [] (Or.inl q)⟩
  refine codeAny_call_function (Room.depth hr) (KX f _ lk) rfl S.co S.gen rfl (PySem.W.codeRec_of KX hcd) (hb (model P w) A.in1 _ _ ?_)
  refine wpAny_newFunctionEnv_cells S.kind hkind fun env he s1 x => ?_
  subst he
  refine ⟨Heap.NoLimit.keeps lim x.toInCall.keep, codeAny_func ?_⟩
  obtain ⟨t, ht, hq⟩ := hbody A outer s H vs Q E (Room.deeper hr (envOfC qual scope s.heap.objs.size f cdv)) hg hsp
  have I := inv_start (CX := CX0) (E := E) S hr.hd e0 hl r x
  refine wpAny_mono (ht.run [] s1 (L2.start N vs) H _ I hq) (fun fl s' hs => ?_) fun e s' hs => hs
  cases fl with
  | next =>
    obtain ⟨σ', H', J, q⟩ := hs
    exact ⟨.non, H', J.os, J.bare, J.base, J.hok, rfl, q⟩
  | brk =>
    obtain ⟨_, _, _, q⟩ := hs
    exact q.elim
  | cont =>
    obtain ⟨_, _, _, q⟩ := hs
    exact q.elim
  | ret u =>
    obtain ⟨v, σ', H', J, rv, q⟩ := hs
    exact ⟨v, H', J.os, J.bare, J.base, J.hok, rv, q⟩
section
variable {X : Cx} {k j : Nat} {f : Addr} {fd : FuncData} {ps : List Str} {sp : Sp} {pins : List (Addr × Obj)} {σ : L2.St} {H : Hp} {s : Shared} {Q : VK} {us : List Value} {vs : List V}
theorem run_fng (F : FnG X.prog X.w X.K X.mg X.base k f fd ps sp) (hr : Room k X.A) (hg : X.A.guards = some []) (hb : Binds X.K fd ps []) (I : Inv X pins σ H s) (r : Vals vs us) (h : sp vs H Q E0) :
    wpAny (model X.prog X.w) X.A (call (.ref f) us) (EP X pins σ Q) X.xe s := by
  have hl := F.len vs H Q E0 h
  refine wpAny_call (codeAny_mono (F.run X.A X.stack s H ⟨us, []⟩ us vs Q E0 hr hg I.env0 ?_ r h) fun r' s' hq => ?_)
  · have := hb s us I.kIn (by rw [List.append_nil, ← r.length]; exact hl)
    rw [List.append_nil] at this
    exact this
  · match r', hq with
    | .error e, hq => exact pass0 pins σ H s e s' I hq
    | .ok .next, hq => exact hq.elim
    | .ok .brk, hq => exact hq.elim
    | .ok .cont, hq => exact hq.elim
    | .ok (.ret u), hq => exact Inv.after I hq
end
/-- a def that may be called by its name, where no repr is under way -/
structure ClG (W : Wd) (k : Nat) (x : Str) (sp : Sp) : Prop where
  ex : ∃ (f : Addr) (fd : FuncData) (ps : List Str), FnG W.P W.w W.K W.mg W.base k f fd ps sp ∧ W.mg x = some (.ref f) ∧ PySem.W.keepIn W.K (.ref f) = true ∧ Binds W.K fd ps []
/-- a body that may show lists -/
def BodyG (W : Wd) (k : Nat) (N : List Str) (qual : Str) (st : Stmt) (sp : Sp) : Prop :=
  ∀ (f : Addr) (cdv : Value) (A : Around) (outer : List Env) (s : Shared) (H : Hp) (vs : List V) (Q : VK) (E : XK), Room k (A.deeper (envOfC qual (defScope st) s.heap.objs.size f cdv)) → (A.deeper (envOfC qual (defScope st) s.heap.objs.size f cdv)).guards = some [] → sp vs H Q E →
      ∃ t, PSs (cxOf CX0 W.P W.w W.K W.mg W.base N qual (defScope st) f cdv A outer s H E).nox (defBody st) t ∧ t { nx := fun _ H' => Q .non H', rt := Q } (start N vs) H
theorem fng_fun {W : Wd} {k : Nat} {x qual : Str} {st : Stmt} {f : Addr} {fd : FuncData} {N ps : List Str} {sp : Sp} (F : L2.Fun W.K x qual st f fd) (S : FnScope N ps (defScope st)) (len : ∀ vs H Q E, sp vs H Q E → vs.length = ps.length) (hbody : BodyG W k N qual st sp) : FnG W.P W.w W.K W.mg W.base (k + 1) f fd ps sp := by
  obtain ⟨oc, od, kV, doc, pm, an, cdv, ct, osl, rfl, lk, hcd⟩ := F.ex
  refine fng_of lk hcd S len fun A outer s H vs Q E hr hg hsp => ?_
  obtain ⟨t, h, q⟩ := hbody f cdv A outer s H vs Q E hr hg hsp
  exact ⟨t, h.nox, q⟩
theorem clg_of {W : Wd} {k : Nat} {x : Str} {st : Stmt} {N ps : List Str} {sp : Sp} (g : GF W.K W.mg x st) (S : FnScope N ps (defScope st)) (hb : BindOk x x st ps) (len : ∀ vs H Q E, sp vs H Q E → vs.length = ps.length) (hbody : BodyG W k N x st sp) : ClG W (k + 1) x sp := by
  obtain ⟨f, fd, F, hm⟩ := g.ex
  exact ⟨f, fd, ps, fng_fun F S len hbody, hm, F.kp, F.binds hb⟩
section
variable {X : Cx} {k j : Nat} {x : Str} {sp : Sp} {p pos : Pos} {e : Expr} {es : List Expr} {t : TA}
theorem pe_clG (c : ClG ⟨X.prog, X.w, X.K, X.mg, X.base⟩ k x sp) (hr : Room j X.A) (hgd : X.A.guards = some []) (hk : k ≤ j) (hg : Gl X x) (ha : PA X (e :: es) t)
    (hdb : (x == ("__debug__" : Str)) = false := by decide) (he : starEach (e :: es) X.env = (false, eval e X.env) :: starEach es X.env := by rfl) (hpl : (backTo pos (starEach es X.env)).any (·.1) = false := by rfl) :
    PE X (.Call (.Name x p) (e :: es) [] pos) (tCall sp [] E0 t) := by
  obtain ⟨f, fd, ps, F, hm, kp, b⟩ := c.ex
  refine ⟨fun pins s σ H Q I h => wpAny_Call_Name_kw (ld_glob I hg hm (PySem.W.callWith_K I.ok.mod.kin kp (thn (ha.run pos pins s σ H _ I h) fun us s1 x => ?_) he hpl) hdb)⟩
  obtain ⟨vs, H1, I1, r, q⟩ := x
  rw [List.append_nil] at q
  exact ⟨I1.kIn, run_fng F (hr.mono hk) hgd b I1 r q⟩
/-- repr of a list or a tuple of plain data -/
def rReprD (K : PySem.W.Frag) : List V → Hp → VK → Prop := fun xs H Q => ∃ (a : Addr) (d : PyData), xs = [.ref a] ∧ Dp K H (.ref a) d ∧ d.showable = true ∧ d.hasDict = false ∧ d.depth ≤ 40 ∧ d.shown.length ≤ sizeLine ∧ Q (.str d.shown) H
theorem call_reprD (hr : Room j X.A) (hgd : X.A.guards = some []) : CallR X (.builtin "repr") (rReprD X.K) := by
  intro pins s σ H xs us Q I r q
  obtain ⟨a, d, rfl, hd, sh, nd, dp, ln, q⟩ := q
  obtain ⟨u, rfl, ru⟩ := vals1 r
  cases ru
  obtain ⟨as, hR⟩ := Dp.reads I d _ _ hd rfl
  have hu := hr.un
  refine PySem.repr_of_reads' hR sh (fun z => by rw [nd] at z; cases z) hgd (by omega) (fun b o e => e) (fun h' u tk hk => ?_) ln
  exact ⟨.str d.shown, H, I.turnedL (ch := []) (fun b o _ e => hk b o e) (fun b z => by cases z), ⟨u, rfl⟩, q⟩
end
end Ly

namespace Ly
open PySem PySem.Spec PyProof.Rows L2
/-- the law's call: of a def that may show lists -/
theorem law_callG {P : Program} {w : World} {K : PySem.W.Frag} {mg mb : Str → Option Value} {k : Nat} {fa a : Addr} {fd : FuncData} {x : Str} {sp : Sp} {s₁ : Shared} {vs : List Value} {ns : List Int}
    (KX : K.In s₁.heap) (hns : s₁.heap.Ns mainGlobals mg) (hb : s₁.heap.Ns builtinsNs mb) (hbb : ∀ x : Str, x ≠ "__name__" → mb x = bootBuiltins x) (hlim : s₁.heap.NoLimit) (hgen : s₁.gens = #[])
    (ha : s₁.heap.get? a = some { cls := .type "list", data := .seq vs.toArray }) (hi : IntsAre vs ns) (hl : ns.length ≤ sizeLine) (hr : Room k callerA)
    (F : ∀ base : Heap, K.In base → base.Ns mainGlobals mg → FnG P w K mg base k fa fd [x] sp) (hbind : ∀ (s : Shared) (u : Value), BindsTo s fd ⟨[u], []⟩ [(x, u)])
    (hsp : ∀ H : Hp, Only H → SqL K H a (ns.map V.int) → sp [.ref a] H (fun v _ => v = .bl true) fun _ _ _ => False) :
    codeAny (model P w) callerA (.call (.ref fa) ⟨[.ref a], []⟩) (fun r s' => r = .ok (.ret (.bool true)) ∧ OldK s₁.heap s'.heap ∧ s'.os = s₁.os ∧ AllBare s'.gens) s₁ := by
  have rv := vals_ints hi
  have lenV := IntsAre.length hi
  have core : ∀ H : Hp, Only H → SqL K H a (ns.map V.int) → HOk P w H s₁.heap → (∀ b, H b ≠ none → b = a) → (H a ≠ none → K.lookup a = none) →
      codeAny (model P w) callerA (.call (.ref fa) ⟨[.ref a], []⟩) (fun r s' => r = .ok (.ret (.bool true)) ∧ OldK s₁.heap s'.heap ∧ s'.os = s₁.os ∧ AllBare s'.gens) s₁ := by
    intro H hO hS hok hA hK
    have noA : ∀ {b : Addr} {o : Obj} {es : Array DictEntry} {ep : Nat}, s₁.heap.get? b = some o → o.data = .dict es ep → H b = none := by
      intro b o es ep e d
      cases q : H b with
      | none => rfl
      | some u =>
        have eb := hA b (by rw [q]; exact Option.some_ne_none _)
        subst eb
        rw [ha] at e
        cases e
        cases d
    have nsK : ∀ {b : Addr} {m : Str → Option Value}, s₁.heap.Ns b m → (hidT s₁.heap H).Ns b m := by
      rintro b m ⟨o, es, ep, e, d, r⟩
      exact ⟨o, es, ep, hidT_get e (noA e d), d, r⟩
    have hKb : K.In (hidT s₁.heap H) := by
      intro b o e
      refine hidT_get (KX b o e) ?_
      cases q : H b with
      | none => rfl
      | some u =>
        have n : H b ≠ none := by rw [q]; exact Option.some_ne_none _
        have eb := hA b n
        subst eb
        rw [hK n] at e
        cases e
    have hM : Mod K mg (hidT s₁.heap H) := ⟨hKb, nsK hns, ⟨mb, nsK hb, hbb⟩, by
      obtain ⟨mc, h1, h2⟩ := hlim
      exact ⟨mc, nsK h1, h2⟩⟩
    have e0 : Env0 P w K mg (hidT s₁.heap H) callerA [] s₁ H := ⟨rfl, hM, fun b o e => of_hidT e, Nat.le_of_eq (hidT_size s₁.heap H), trivial, fun b z => (by cases z), hok, AllBare.of_eq hgen⟩
    refine codeAny_mono ((F (hidT s₁.heap H) hKb (nsK hns)).run callerA [] s₁ H ⟨[.ref a], []⟩ [.ref a] [.ref a] (fun v _ => v = .bl true) (fun _ _ _ => False) hr rfl e0 (hbind s₁ (.ref a)) (.cons rfl .nil) (hsp H hO hS)) ?_
    intro r s' h
    match r, h with
    | .error e, h => exact (show False from h).elim
    | .ok .next, h => exact h.elim
    | .ok .brk, h => exact h.elim
    | .ok .cont, h => exact h.elim
    | .ok (.ret u), h =>
      obtain ⟨v, H', os, bare, un, hok', r', q⟩ := h
      subst q
      obtain rfl : u = .bool true := r'
      refine ⟨rfl, OldK.of_keep fun b o e => ?_, os, bare⟩
      cases q : H b with
      | none => exact un.keep b o e q (by simp [frs]) (by simp)
      | some u =>
        rcases hO b with z | ⟨ob, xs, z⟩
        · rw [q] at z
          cases z
        · have z2 := un.frzs b ob (.lst xs) z
          obtain ⟨e1, _⟩ := hok b (.frz ob (.lst xs)) z
          obtain ⟨e2, _⟩ := hok' b (.frz ob (.lst xs)) z2
          rw [e] at e1
          cases e1
          exact e2
  cases hk : K.lookup a with
  | none =>
    refine core (fun b => if b = a then some (.frz { cls := .type "list", data := .seq vs.toArray } (.lst (ns.map V.int))) else none) (fun b => ?_) ?_ (fun b u z => ?_) (fun b z => ?_) fun _ => hk
    · by_cases h : b = a
      · exact .inr ⟨_, _, if_pos h⟩
      · exact .inl (if_neg h)
    · exact .inl (.inr ⟨_, if_pos rfl⟩)
    · by_cases h : b = a
      · subst h
        have z' : some (HO.frz { cls := .type "list", data := .seq vs.toArray } (.lst (ns.map V.int))) = some u := (if_pos rfl).symm.trans z
        cases z'
        exact ⟨ha, by rw [List.length_map]; exact hl, vs, 0, rv, ha⟩
      · have z' : none = some u := (if_neg h).symm.trans z
        cases z'
    · by_cases h : b = a
      · exact h
      · exact absurd (if_neg h) z
  | some o =>
    have e := KX a o hk
    rw [ha] at e
    cases e
    refine core (fun _ => none) (fun _ => .inl rfl) (.inr ⟨_, vs.toArray, 0, hk, rfl, rfl, rfl, ?_, rv⟩) (fun b u z => by cases z) (fun b z => absurd rfl z) fun z => absurd rfl z
    rw [List.size_toArray, lenV]
    exact hl
theorem walk_ofG {l : PySem.W.OpenLaw} {n k : Nat} {q : Program} {loose : List Str} {XP : (Str → Option Value) → Heap → Prop} {YP : World → Heap → Prop} {d : DefRec} {K : Params → PySem.W.Frag} {sp : World → Sp} {x : Str} (hn : l.most = some n) (hn2 : n ≤ sizeLine) (hdf : d.params.defaults = []) (hr : Room k callerA)
    (hY : ∀ (w : World) (h : Heap), YP w h → (K w.params).In h)
    (F : ∀ (w : World) (mg : Str → Option Value) (fa : Addr) (h : Heap), (K w.params).In h → h.Ns mainGlobals mg → mg d.name = some (.ref fa) → ∃ fd : FuncData, (∀ (s : Shared) (u : Value), BindsTo s fd ⟨[u], []⟩ [(x, u)]) ∧ ∀ base : Heap, (K w.params).In base → base.Ns mainGlobals mg → FnG l.prog w (K w.params) mg base k fa fd [x] (sp w))
    (hsp : ∀ (w : World) (H : Hp) (a : Addr) (ns : List Int), ns.length ≤ n → Only H → SqL (K w.params) H a (ns.map V.int) → sp w [.ref a] H (fun v _ => v = .bl true) fun _ _ _ => False) :
    PySem.W.WalkO q loose XP YP l.row.toRowW d [] (fun f vs => PySem.call f vs) := by
  refine Att.attach_call hn hdf fun w s₀ s₁ mg mb fa o pm cd doc a vs ns G Y ho hd hcd hmg hobj hints hlen hg => ?_
  have KX := hY w s₁.heap Y
  obtain ⟨fd, hb, hF⟩ := F w mg fa s₁.heap KX G.T.g hmg
  exact law_callG KX G.T.g G.T.b G.T.builtins G.T.nolimit hg hobj hints (Nat.le_trans hlen hn2) hr hF hb fun H hO hS => hsp w H a ns hlen hO hS
end Ly

namespace Ly
open PySem PySem.Spec PyProof.Rows L2
/-! ### tuples of texts, in order -/
def lexS (r : Str → Str → Bool) (z : Nat → Nat → Bool) (xs ys : List Str) : Bool :=
  Ob.lexAt (fun j => xs.getD j Str.empty == ys.getD j Str.empty) (fun j => r (xs.getD j Str.empty) (ys.getD j Str.empty)) (z xs.length ys.length) 0 (min xs.length ys.length)
def rTS (K : PySem.W.Frag) (r : Str → Str → Bool) (z : Nat → Nat → Bool) : R2 := fun x y H Q => ∃ (a b : Addr) (xs ys : List Str), x = .ref a ∧ y = .ref b ∧ SqT K H a (xs.map V.str) ∧ SqT K H b (ys.map V.str) ∧ Q (.bl (lexS r z xs ys)) H
def ltS (x y : Str) : Bool := decide (x.cps.toList < y.cps.toList)
def leS (x y : Str) : Bool := !decide (y.cps.toList < x.cps.toList)
def gtS (x y : Str) : Bool := decide (y.cps.toList < x.cps.toList)
def geS (x y : Str) : Bool := !decide (x.cps.toList < y.cps.toList)
theorem strs_at {xs : List Str} {its : List Value} (r : Vals (xs.map V.str) its) : its.length = xs.length ∧ ∀ (j : Nat) (h : j < its.toArray.size), ∃ t, its.toArray[j] = .str (xs.getD j Str.empty) t := by
  have e := r.length
  rw [List.length_map] at e
  refine ⟨e.symm, fun j h => ?_⟩
  have hj : j < its.length := by simpa using h
  have hx : (xs.map V.str)[j]? = some (V.str (xs.getD j Str.empty)) := by
    rw [List.getElem?_map, List.getD_eq_getElem?_getD]
    have : j < xs.length := by omega
    simp [this]
  obtain ⟨u, eu, ru⟩ := r.get hx
  obtain ⟨t, rfl⟩ := ru
  refine ⟨t, ?_⟩
  have : its[j]? = some its[j] := List.getElem?_eq_getElem hj
  rw [this] at eu
  simpa using Option.some.inj eu
section
variable {X : Cx}
theorem op_ltTS (hu : X.A.units < cLine) : OpR X (compareOp .Lt) (rTS X.K ltS fun n m => decide (n < m)) := by
  intro pins s σ H x y v u Q I rx ry q
  obtain ⟨a, b, xs, ys, rfl, rfl, ha, hb, q⟩ := q
  cases rx
  cases ry
  obtain ⟨its, r1, p1, _⟩ := I.tuple ha
  obtain ⟨its2, r2, p2, _⟩ := I.tuple hb
  obtain ⟨l1, f1⟩ := strs_at r1
  obtain ⟨l2, f2⟩ := strs_at r2
  refine Ob.RcOp.tuples_lt (e := fun j => xs.getD j Str.empty == ys.getD j Str.empty) (r := fun j => ltS (xs.getD j Str.empty) (ys.getD j Str.empty)) p1 p2 hu ?_ ?_ _ _ _ _ ?_
  · intro j h1 h2
    obtain ⟨t, e1⟩ := f1 j h1
    obtain ⟨t2, e2⟩ := f2 j h2
    rw [e1, e2]
    exact SeqAt.EqAt.str_str _ _ _ _
  · intro j h1 h2 _
    obtain ⟨t, e1⟩ := f1 j h1
    obtain ⟨t2, e2⟩ := f2 j h2
    rw [e1, e2]
    intro prog w E Q' hq
    exact lt_str hq
  · refine ⟨.bl _, H, I, rfl, ?_⟩
    have e : Ob.lexAt (fun j => xs.getD j Str.empty == ys.getD j Str.empty) (fun j => ltS (xs.getD j Str.empty) (ys.getD j Str.empty)) (decide (its.toArray.size < its2.toArray.size)) 0 (min its.toArray.size its2.toArray.size) = lexS ltS (fun n m => decide (n < m)) xs ys := by
      unfold lexS
      rw [List.size_toArray, List.size_toArray, l1, l2]
    rw [e]
    exact q
theorem op_leTS (hu : X.A.units < cLine) : OpR X (compareOp .LtE) (rTS X.K leS fun n m => decide (n ≤ m)) := by
  intro pins s σ H x y v u Q I rx ry q
  obtain ⟨a, b, xs, ys, rfl, rfl, ha, hb, q⟩ := q
  cases rx
  cases ry
  obtain ⟨its, r1, p1, _⟩ := I.tuple ha
  obtain ⟨its2, r2, p2, _⟩ := I.tuple hb
  obtain ⟨l1, f1⟩ := strs_at r1
  obtain ⟨l2, f2⟩ := strs_at r2
  refine Ob.RcOp.tuples_le (e := fun j => xs.getD j Str.empty == ys.getD j Str.empty) (r := fun j => leS (xs.getD j Str.empty) (ys.getD j Str.empty)) p1 p2 hu ?_ ?_ _ _ _ _ ?_
  · intro j h1 h2
    obtain ⟨t, e1⟩ := f1 j h1
    obtain ⟨t2, e2⟩ := f2 j h2
    rw [e1, e2]
    exact SeqAt.EqAt.str_str _ _ _ _
  · intro j h1 h2 _
    obtain ⟨t, e1⟩ := f1 j h1
    obtain ⟨t2, e2⟩ := f2 j h2
    rw [e1, e2]
    intro prog w E Q' hq
    exact P.le_str hq
  · refine ⟨.bl _, H, I, rfl, ?_⟩
    have e : Ob.lexAt (fun j => xs.getD j Str.empty == ys.getD j Str.empty) (fun j => leS (xs.getD j Str.empty) (ys.getD j Str.empty)) (decide (its.toArray.size ≤ its2.toArray.size)) 0 (min its.toArray.size its2.toArray.size) = lexS leS (fun n m => decide (n ≤ m)) xs ys := by
      unfold lexS
      rw [List.size_toArray, List.size_toArray, l1, l2]
    rw [e]
    exact q
theorem op_gtTS (hu : X.A.units < cLine) : OpR X (compareOp .Gt) (rTS X.K gtS fun n m => decide (n > m)) := by
  intro pins s σ H x y v u Q I rx ry q
  obtain ⟨a, b, xs, ys, rfl, rfl, ha, hb, q⟩ := q
  cases rx
  cases ry
  obtain ⟨its, r1, p1, _⟩ := I.tuple ha
  obtain ⟨its2, r2, p2, _⟩ := I.tuple hb
  obtain ⟨l1, f1⟩ := strs_at r1
  obtain ⟨l2, f2⟩ := strs_at r2
  refine Ob.RcOp.tuples_gt (e := fun j => xs.getD j Str.empty == ys.getD j Str.empty) (r := fun j => gtS (xs.getD j Str.empty) (ys.getD j Str.empty)) p1 p2 hu ?_ ?_ _ _ _ _ ?_
  · intro j h1 h2
    obtain ⟨t, e1⟩ := f1 j h1
    obtain ⟨t2, e2⟩ := f2 j h2
    rw [e1, e2]
    exact SeqAt.EqAt.str_str _ _ _ _
  · intro j h1 h2 _
    obtain ⟨t, e1⟩ := f1 j h1
    obtain ⟨t2, e2⟩ := f2 j h2
    rw [e1, e2]
    intro prog w E Q' hq
    exact P.gt_str hq
  · refine ⟨.bl _, H, I, rfl, ?_⟩
    have e : Ob.lexAt (fun j => xs.getD j Str.empty == ys.getD j Str.empty) (fun j => gtS (xs.getD j Str.empty) (ys.getD j Str.empty)) (decide (its.toArray.size > its2.toArray.size)) 0 (min its.toArray.size its2.toArray.size) = lexS gtS (fun n m => decide (n > m)) xs ys := by
      unfold lexS
      rw [List.size_toArray, List.size_toArray, l1, l2]
    rw [e]
    exact q
theorem op_geTS (hu : X.A.units < cLine) : OpR X (compareOp .GtE) (rTS X.K geS fun n m => decide (n ≥ m)) := by
  intro pins s σ H x y v u Q I rx ry q
  obtain ⟨a, b, xs, ys, rfl, rfl, ha, hb, q⟩ := q
  cases rx
  cases ry
  obtain ⟨its, r1, p1, _⟩ := I.tuple ha
  obtain ⟨its2, r2, p2, _⟩ := I.tuple hb
  obtain ⟨l1, f1⟩ := strs_at r1
  obtain ⟨l2, f2⟩ := strs_at r2
  refine Ob.RcOp.tuples_ge (e := fun j => xs.getD j Str.empty == ys.getD j Str.empty) (r := fun j => geS (xs.getD j Str.empty) (ys.getD j Str.empty)) p1 p2 hu ?_ ?_ _ _ _ _ ?_
  · intro j h1 h2
    obtain ⟨t, e1⟩ := f1 j h1
    obtain ⟨t2, e2⟩ := f2 j h2
    rw [e1, e2]
    exact SeqAt.EqAt.str_str _ _ _ _
  · intro j h1 h2 _
    obtain ⟨t, e1⟩ := f1 j h1
    obtain ⟨t2, e2⟩ := f2 j h2
    rw [e1, e2]
    intro prog w E Q' hq
    exact P.ge_str hq
  · refine ⟨.bl _, H, I, rfl, ?_⟩
    have e : Ob.lexAt (fun j => xs.getD j Str.empty == ys.getD j Str.empty) (fun j => geS (xs.getD j Str.empty) (ys.getD j Str.empty)) (decide (its.toArray.size ≥ its2.toArray.size)) 0 (min its.toArray.size its2.toArray.size) = lexS geS (fun n m => decide (n ≥ m)) xs ys := by
      unfold lexS
      rw [List.size_toArray, List.size_toArray, l1, l2]
    rw [e]
    exact q
/-! ### own objects by their own <, <=, >, >=, and == beside values of any kind -/
theorem op_cmp2 {op : CmpOp} {C f : Addr} {fd : FuncData} {ps : List Str} {sp : Sp} {k : Nat} (h0 : compareOp op = richCompare op) (F : FnOk X.prog X.w X.K X.mg X.base CX0 k f fd ps sp) (hr : Room k X.A) (hb : Binds X.K fd ps []) (hs : PySem.W.findIn X.K (.ref C) (cmpInfo op).2.1 = some (some (.ref f))) (hf : PySem.W.isFn X.K (.ref f) = true) : OpR X (compareOp op) (rOwn2 C sp) := by
  intro pins s σ H x y v u Q I rx ry q
  obtain ⟨a, b, dx, dy, fs, gs, rfl, rfl, ha, hb', q⟩ := q
  cases rx
  cases ry
  obtain ⟨mA, J, _⟩ := ins_get I.hok ha
  obtain ⟨mB, J', _⟩ := ins_get I.hok hb'
  obtain ⟨od, J, _⟩ := J.look
  obtain ⟨od', J', _⟩ := J'.look
  obtain ⟨m, hF⟩ := I.fr
  rw [h0]
  exact PySem.W.cmp_K (op := op) (tb := .ref C) hr.units0 hF I.ok.mod.kin J J'.type (by simp [PySem.W.notFirst]) hs hf (cmpback (run_fn (us := [.ref a, .ref b]) (vs := [.ref a, .ref b]) (Q := Q) F hr hb .nil pass0 I (.cons rfl (.cons rfl .nil)) q))
theorem cmp2_m {op : CmpOp} {C : Addr} {m : Str} {sp : Sp} {k j : Nat} (h : Mt ⟨X.prog, X.w, X.K, X.mg, X.base⟩ k C m sp) (hr : Room j X.A) (hk : k ≤ j) (h0 : compareOp op = richCompare op) (e : (cmpInfo op).2.1 = m) : OpR X (compareOp op) (rOwn2 C sp) := by
  subst e
  obtain ⟨f, fd, ps, hm, F, b⟩ := h.ex
  exact op_cmp2 h0 F (hr.mono hk) b hm.at_ hm.fn
theorem lt_m {C : Addr} {sp : Sp} {k j : Nat} (h : Mt ⟨X.prog, X.w, X.K, X.mg, X.base⟩ k C "__lt__" sp) (hr : Room j X.A) (hk : k ≤ j) : OpR X (compareOp .Lt) (rOwn2 C sp) := cmp2_m h hr hk rfl rfl
theorem le_m {C : Addr} {sp : Sp} {k j : Nat} (h : Mt ⟨X.prog, X.w, X.K, X.mg, X.base⟩ k C "__le__" sp) (hr : Room j X.A) (hk : k ≤ j) : OpR X (compareOp .LtE) (rOwn2 C sp) := cmp2_m h hr hk rfl rfl
theorem gt_m {C : Addr} {sp : Sp} {k j : Nat} (h : Mt ⟨X.prog, X.w, X.K, X.mg, X.base⟩ k C "__gt__" sp) (hr : Room j X.A) (hk : k ≤ j) : OpR X (compareOp .Gt) (rOwn2 C sp) := cmp2_m h hr hk rfl rfl
theorem ge_m {C : Addr} {sp : Sp} {k j : Nat} (h : Mt ⟨X.prog, X.w, X.K, X.mg, X.base⟩ k C "__ge__" sp) (hr : Room j X.A) (hk : k ≤ j) : OpR X (compareOp .GtE) (rOwn2 C sp) := cmp2_m h hr hk rfl rfl
end
end Ly

namespace Ly
open PySem PySem.Spec PyProof.Rows L2
section
open PySem.W PySem.Calls
variable {X : Cx} {C f : Addr} {fd : FuncData} {ps : List Str} {sp : Sp} {k j : Nat}
/-- own == a value of another, built-in, kind -/
def rEqOwnT (K : PySem.W.Frag) (C : Addr) (sp : Sp) (g : Bool → Bool) : R2 := fun x y H Q => ∃ a dx fs T, x = .ref a ∧ H a = some (.ins C dx fs) ∧ TyX K H y (.type T) ∧ subIn K (.type T) (.ref C) = some false ∧ sp [x, y] H (bq g Q) E0
theorem op_eq_ownT (F : FnOk X.prog X.w X.K X.mg X.base CX0 k f fd ps sp) (hr : Room k X.A) (hb : Binds X.K fd ps []) (hs : findIn X.K (.ref C) "__eq__" = some (some (.ref f))) (hf : isFn X.K (.ref f) = true) : OpR X (compareOp .Eq) (rEqOwnT X.K C sp id) := by
  intro pins s σ H x y v u Q I rx ry q
  obtain ⟨a, dx, fs, T, rfl, ha, ty, hn, q⟩ := q
  cases rx
  obtain ⟨mA, J, _⟩ := ins_get I.hok ha
  obtain ⟨od, J, _⟩ := J.look
  obtain ⟨m, hF⟩ := I.fr
  obtain ⟨P, kx, hP, _⟩ := kit_of I ry ty
  refine PySem.W.cmp_K (op := .Eq) (tb := .type T) hr.units0 hF I.ok.mod.kin J (kx.ty _ _ I.kIn hP) ?_ hs hf (cmpback (wpAny_mono (run_fn (us := [.ref a, u]) (vs := [.ref a, y]) F hr hb .nil pass0 I (.cons rfl (.cons ry .nil)) q) (fun v s' hv => ?_) fun _ _ e => e))
  · unfold notFirst
    rw [hn]
    simp
  · obtain ⟨v0, H', I', rv, b, rfl, qv⟩ := hv
    exact ⟨.bl b, H', I', rv, qv⟩
theorem op_ne_ownT (F : FnOk X.prog X.w X.K X.mg X.base CX0 k f fd ps sp) (hr : Room (k + 3) X.A) (hb : Binds X.K fd ps []) (hs : findIn X.K (.ref C) "__eq__" = some (some (.ref f))) (hf : isFn X.K (.ref f) = true)
    (hn : findIn X.K (.ref C) "__ne__" = some (some (.builtin "object.__ne__"))) (hob : subIn X.K (.ref C) (.type "object") = some true) : OpR X (compareOp .NotEq) (rEqOwnT X.K C sp not) := by
  intro pins s σ H x y v u Q I rx ry q
  obtain ⟨a, dx, fs, T, rfl, ha, ty, hi, q⟩ := q
  cases rx
  obtain ⟨mA, J, _⟩ := ins_get I.hok ha
  obtain ⟨od, J, _⟩ := J.look
  have KX := I.kIn
  obtain ⟨P, kx, hP, _⟩ := kit_of I ry ty
  have one : wpAny (model X.prog X.w) X.A (tryCompare (.ref a) (Str.ofString "__ne__") u) (fun r s' => ∃ v, r = some v ∧ EP X pins σ Q v s') X.xe s := by
    unfold tryCompare
    refine wpAny_bind (ifBound_bi KX J hn ne_slot.bind (wpAny_mono (ne_run (E' := X.xe) F (hr.mono (Nat.le_succ _)) rfl hb hs hf hob I ha ry q) (fun v s' hv => ?_) fun _ _ e => e))
    obtain ⟨h1, h2⟩ := hv
    cases v <;> first | exact (h1 rfl).elim | exact wpAny_pure ⟨_, rfl, h2⟩
  show wpAny _ _ (richCompare .NotEq (.ref a) u) _ _ _
  unfold richCompare
  simp only [oneThing_ref]
  refine wpAny_holding (wpAny_bind (wpAny_cRoomFor hr.units0 ?_))
  refine wpAny_bind (J.type.here (wpAny_bind ((kx.ty (model X.prog X.w) _ I.kIn hP).here ?_)))
  rw [if_pos (by simp)]
  refine wpAny_bind ((looks_subIn KX hi).here ?_)
  simp only [Bool.false_eq_true, if_false]
  refine wpAny_bind (wpAny_mono one (fun r s' z => ?_) fun _ _ e => e)
  obtain ⟨v, rfl, hq⟩ := z
  exact wpAny_pure hq
theorem eqT_m {sp : Sp} (h : Mt ⟨X.prog, X.w, X.K, X.mg, X.base⟩ k C "__eq__" sp) (hr : Room j X.A) (hk : k ≤ j) : OpR X (compareOp .Eq) (rEqOwnT X.K C sp id) := by
  obtain ⟨f, fd, ps, hm, F, b⟩ := h.ex
  exact op_eq_ownT F (hr.mono hk) b hm.at_ hm.fn
theorem neT_m {sp : Sp} {x : Str} (h : Mt ⟨X.prog, X.w, X.K, X.mg, X.base⟩ k C "__eq__" sp) (o : OwnC X.K X.mg x C) (ne : findIn X.K (.ref C) "__ne__" = some (some (.builtin "object.__ne__"))) (hr : Room j X.A) (hk : k + 3 ≤ j) : OpR X (compareOp .NotEq) (rEqOwnT X.K C sp not) := by
  obtain ⟨f, fd, ps, hm, F, b⟩ := h.ex
  exact op_ne_ownT F (hr.mono hk) b hm.at_ hm.fn ne o.sO
end
end Ly

namespace Ly
open PySem PySem.Spec PyProof.Rows L2
/-! ### sorted: a list of tuples of three texts -/
abbrev T3 := Str × Str × Str
theorem ltS_irr (x : Str) : ltS x x = false := decide_eq_false (List.lt_irrefl _)
theorem ltS_as (x y : Str) (h : ltS x y = true) : ltS y x = false := decide_eq_false (List.lt_asymm (of_decide_eq_true h))
theorem ltS_tr (x y z : Str) (h : ltS x y = true) (k : ltS y z = true) : ltS x z = true := decide_eq_true (List.lt_trans (of_decide_eq_true h) (of_decide_eq_true k))
theorem ltS_tri (x y : Str) (n : x ≠ y) (h : ltS y x = false) : ltS x y = true := by
  unfold ltS at *
  by_cases k : x.cps.toList < y.cps.toList
  · exact decide_eq_true k
  · have h1 := of_decide_eq_false h
    exact absurd (str_ext (List.le_antisymm (show x.cps.toList ≤ y.cps.toList from h1) (show y.cps.toList ≤ x.cps.toList from k))) n
theorem swo_str : SrtO.Swo ltS := ⟨ltS_as, fun x y z h k => by
  by_cases e1 : x = y
  · subst e1
    exact k
  · by_cases e2 : y = z
    · subst e2
      exact h
    · exact ltS_as _ _ (ltS_tr _ _ _ (ltS_tri _ _ e1 h) (ltS_tri _ _ e2 k))⟩
def lexB {β : Type} (l2 : β → β → Bool) (p q : Str × β) : Bool := if p.1 = q.1 then l2 p.2 q.2 else ltS p.1 q.1
theorem swo_lexB {β : Type} {l2 : β → β → Bool} (h2 : SrtO.Swo l2) : SrtO.Swo (lexB l2) := by
  refine ⟨fun p q h => ?_, fun x y z h k => ?_⟩
  · unfold lexB at *
    by_cases e : p.1 = q.1
    · rw [if_pos e] at h
      rw [if_pos e.symm]
      exact h2.asym _ _ h
    · rw [if_neg e] at h
      rw [if_neg (fun z => e z.symm)]
      exact ltS_as _ _ h
  · unfold lexB at *
    by_cases e : z.1 = x.1
    · rw [if_pos e]
      by_cases e1 : y.1 = x.1
      · rw [if_pos e1] at h
        rw [if_pos (e.trans e1.symm)] at k
        exact h2.tr _ _ _ h k
      · rw [if_neg e1] at h
        rw [if_neg (fun w => e1 (w.symm.trans e)), e] at k
        have := ltS_tri _ _ (fun w => e1 w.symm) h
        rw [this] at k
        cases k
    · rw [if_neg e]
      by_cases e1 : y.1 = x.1
      · rw [if_neg (fun w => e (w.trans e1)), e1] at k
        exact k
      · rw [if_neg e1] at h
        have a1 := ltS_tri _ _ (fun w => e1 w.symm) h
        by_cases e2 : z.1 = y.1
        · rw [e2]
          exact ltS_as _ _ a1
        · rw [if_neg e2] at k
          exact ltS_as _ _ (ltS_tr _ _ _ a1 (ltS_tri _ _ (fun w => e2 w.symm) k))
def lt3 : T3 → T3 → Bool := lexB (lexB ltS)
theorem swo_3 : SrtO.Swo lt3 := swo_lexB (swo_lexB swo_str)
theorem swo_by {α β : Type} {lt : β → β → Bool} (h : SrtO.Swo lt) (k : α → β) : SrtO.Swo fun x y => lt (k x) (k y) := ⟨fun x y e => h.asym _ _ e, fun x y z e f => h.tr _ _ _ e f⟩
def IsTrip (h : Heap) (v : Value) (k : T3) : Prop := ∃ a o t1 t2 t3 n, v = .ref a ∧ h.get? a = some o ∧ o.cls = .type "tuple" ∧ o.data = .seq #[.str k.1 t1, .str k.2.1 t2, .str k.2.2 t3] n
theorem one_str {prog : Program} {w : World} {A : Around} {E : Value → Shared → Prop} {s : Shared} {Q : Bool → Shared → Prop} (c : Bool) {p q : Str} {t u : Tok} (h : Q (ltS p q) s) : wpAny (model prog w) A (oneLt' c (.str p t) (.str q u)) Q E s := by
  cases c with
  | true => exact oneLt_str h
  | false => exact PySem.W.kat_one _ _ (lt_str h)
theorem trip_cmp {prog : Program} {w : World} {A : Around} {s : Shared} {vs : List Value} {k : Value → T3} (hp : ∀ v ∈ vs, IsTrip s.heap v (k v)) : SrtO.Cmp prog w A s (tuples' true) (fun p => p.1 ∈ vs) (SrtO.lt2 fun v u => lt3 (k v) (k u)) := by
  intro p q hm hm'
  obtain ⟨a, o, t1, t2, t3, n, e, ho, hc, hd⟩ := hp p.1 hm
  obtain ⟨a', o', t1', t2', t3', n', e', ho', hc', hd'⟩ := hp q.1 hm'
  have goal : lt3 (k p.1) (k q.1) = lt3 (k p.1) (k q.1) := rfl
  show wpAny (model prog w) A (keyLt' (tuples' true) p.1 q.1) (fun r s' => s' = s ∧ r = lt3 (k p.1) (k q.1)) (fun _ _ => False) s
  generalize k p.1 = x at *
  generalize k q.1 = y at *
  rw [e, e']
  refine PySem.W.kat_lt ho hd ho' hd' ?_
  show PySem.W.KatLex prog w A true (decide (3 < 3)) _ [(.str x.1 t1, .str y.1 t1'), (.str x.2.1 t2, .str y.2.1 t2'), (.str x.2.2 t3, .str y.2.2 t3')] 0 s
  have eq_of : ∀ {i j : Str}, (i == j) = true → i = j := fun h => by simpa using h
  have ne_of : ∀ {i j : Str}, (i == j) = false → ¬ i = j := fun h => by simpa using h
  unfold lt3 lexB
  refine PySem.W.kat_cons (SeqAt.EqAt.str_str _ _ _ _ _ _ _ _ (PySem.W.kat_go (fun e1 => PySem.W.kat_yes ?_) fun e1 => PySem.W.kat_no ?_))
  · rw [if_pos (eq_of e1)]
    refine PySem.W.kat_cons (SeqAt.EqAt.str_str _ _ _ _ _ _ _ _ (PySem.W.kat_go (fun e2 => PySem.W.kat_yes ?_) fun e2 => PySem.W.kat_no ?_))
    · rw [if_pos (eq_of e2)]
      refine PySem.W.kat_cons (SeqAt.EqAt.str_str _ _ _ _ _ _ _ _ (PySem.W.kat_go (fun e3 => PySem.W.kat_yes ?_) fun e3 => PySem.W.kat_no ?_))
      · refine PySem.W.kat_nil ⟨rfl, ?_⟩
        rw [eq_of e3, ltS_irr]
        rfl
      · exact one_str _ ⟨rfl, rfl⟩
    · rw [if_neg (ne_of e2)]
      exact one_str _ ⟨rfl, rfl⟩
  · rw [if_neg (ne_of e1)]
    exact one_str _ ⟨rfl, rfl⟩
theorem trips_first {h : Heap} {k : Value → T3} : ∀ {vs : List Value}, (∀ v ∈ vs, IsTrip h v (k v)) → ∃ fs, PySem.W.KatTups h vs fs ∧ fs.length = vs.length ∧ ∀ f ∈ fs, ∃ x t, f = Value.str x t
  | [], _ => ⟨[], trivial, rfl, fun f z => by cases z⟩
  | v :: vs, hp => by
    obtain ⟨fs, h1, h2, h3⟩ := trips_first (vs := vs) fun u hu => hp u (List.mem_cons_of_mem _ hu)
    obtain ⟨a, o, t1, t2, t3, n, e, ho, hc, hd⟩ := hp v (List.mem_cons_self ..)
    refine ⟨.str (k v).1 t1 :: fs, ⟨⟨a, o, _, n, e, ho, hc, hd, rfl⟩, h1⟩, by simp [h2], fun f hf => ?_⟩
    rcases List.mem_cons.mp hf with rfl | hf
    · exact ⟨_, _, rfl⟩
    · exact h3 f hf
theorem trips_sortable {prog : Program} {w : World} {A : Around} {s : Shared} {a : Addr} {vs : List Value} {k : Value → T3} (h0 : 0 < vs.length) (hp : ∀ v ∈ vs, IsTrip s.heap v (k v)) (ha : ∀ o, s.heap.get? a = some o → o.cls ≠ .type "tuple") :
    SrtO.SortableO prog w A s a vs fun v u => lt3 (k v) (k u) := by
  intro h' keep
  have hp' : ∀ v ∈ vs, IsTrip h' v (k v) := fun v hv => by
    obtain ⟨b, o, t1, t2, t3, n, e, ho, hc, hd⟩ := hp v hv
    exact ⟨b, o, t1, t2, t3, n, e, keep b o (fun z => ha o (by rw [← z]; exact ho) hc) ho, hc, hd⟩
  obtain ⟨fs, h1, h2, h3⟩ := trips_first hp'
  refine ⟨tuples' true, fun Q E hq => ?_, trip_cmp hp'⟩
  refine PySem.W.kat_kind (T := .type "str") h1 (by omega) (fun f hf => ?_) (beq_self_eq_true _) ?_
  · obtain ⟨x, t, rfl⟩ := h3 f hf
    exact PySem.W.Looks.of_pure rfl
  · have e : (Value.type "str" != Value.type "tuple") = true := by decide +kernel
    rw [e]
    exact hq
theorem sorted_trips {prog : Program} {w : World} {A : Around} {E : Value → Shared → Prop} {s : Shared} {l : Addr} {vs : List Value} {k : Value → T3} {Q : Value → Shared → Prop} (hl : s.heap.IsList l vs.toArray) (hz : vs.length ≤ sizeLine) (hp : ∀ v ∈ vs, IsTrip s.heap v (k v))
    (h : ∀ (h' : Heap) (d : Addr) (out : List Value), SrtO.Srtd (fun v u => lt3 (k v) (k u)) out → SrtO.Stb (fun v u => lt3 (k v) (k u)) out vs → (∀ b o, s.heap.get? b = some o → h'.get? b = some o) → s.heap.objs.size ≤ d → (∃ n, h'.get? d = some (seqObj "list" out.toArray n)) → Q (.ref d) { s with heap := h' }) :
    wpAny (model prog w) A (call (.builtin "sorted") [.ref l]) Q E s := by
  refine SrtO.sorted_ord (swo_by swo_3 k) hl hz (fun h2 h₁ a ha kk => ?_) fun out hs hb => h _ (s.heap.objs.size + 1) out hs hb (fun b o e => sortedAll_old e) (Nat.le_succ _) (sortedAll_at s.heap vs out.toArray)
  refine trips_sortable (by omega) (fun v hm => ?_) fun o e c => ?_
  · obtain ⟨b, o, t1, t2, t3, n, e, ho, hc, hd⟩ := hp v hm
    exact ⟨b, o, t1, t2, t3, n, e, (kk b o ho).2, hc, hd⟩
  · have e2 : some (seqObj "list" vs.toArray 0) = some o := ha.symm.trans e
    cases e2
    exact absurd (Value.type.inj c) (by decide)
/-- sorted(xs), the items tuples of three texts -/
def rSortedT3 (K : PySem.W.Frag) : List V → Hp → VK → Prop := fun vs H Q => ∃ (a : Addr) (xs : List V) (k : V → T3), vs = [.ref a] ∧ SqL K H a xs ∧ (∀ x ∈ xs, ∃ t, x = .ref t ∧ H t = some (.tup [.str (k x).1, .str (k x).2.1, .str (k x).2.2])) ∧
  ∀ ys p, SrtO.Srtd (fun x y => lt3 (k x) (k y)) ys → SrtO.Stb (fun x y => lt3 (k x) (k y)) ys xs → H p = none → Q (.ref p) (upd H p (.lst ys))
theorem cr_sortedT3 {X : Cx} : CallR X (.builtin "sorted") (rSortedT3 X.K) := by
  intro pins s σ H vs us Q I r q
  obtain ⟨a, xs, k, rfl, hs, hx, q⟩ := q
  obtain ⟨its, rv, hl, hz⟩ := I.list hs
  obtain ⟨u, rfl, ru⟩ := vals1 r
  cases ru
  obtain ⟨e1, e2⟩ := refs_back rv fun x m => by
    obtain ⟨t, e, _⟩ := hx x m
    exact ⟨t, e⟩
  refine sorted_trips (k := fun v => k (backV v)) hl.isList (by rw [← rv.length]; exact hz) (fun v hv => ?_) fun h' d out h1 h2 kp hd hn => ?_
  · obtain ⟨t, rfl⟩ := e2 v hv
    have hm : V.ref t ∈ xs := by
      rw [e1]
      exact List.mem_map.mpr ⟨.ref t, hv, rfl⟩
    obtain ⟨t', e, ht⟩ := hx _ hm
    cases e
    obtain ⟨us3, r3, ⟨o, ho, hc, n, hd⟩, _⟩ := I.tuple (SqT.of ht)
    cases r3 with
    | cons a1 r3 =>
      cases r3 with
      | cons a2 r3 =>
        cases r3 with
        | cons a3 r3 =>
          cases r3
          obtain ⟨t1, rfl⟩ := a1
          obtain ⟨t2, rfl⟩ := a2
          obtain ⟨t3, rfl⟩ := a3
          exact ⟨t, o, t1, t2, t3, n, rfl, ho, hc, hd⟩
  · have h3 : ∀ u ∈ out, ∃ a, u = Value.ref a := fun u hu => e2 u (h2.perm.mem_iff.mp hu)
    obtain ⟨n, hn⟩ := hn
    have hb := SrtO.Stb.map (swo_by swo_3 k) backV h2
    rw [← e1] at hb
    refine ⟨.ref d, _, Inv.laid I kp hd (o := .lst (out.map backV)) ⟨by rw [hb.len]; exact hz, out, n, vals_back h3, hn⟩, rfl, q _ d (SrtO.srtd_map h1) hb (HOk.fresh I.hok hd)⟩
end Ly

namespace Ly
open PySem PySem.Spec PyProof.Rows L2
/-! ### repr of a text, of a list of bools -/
def rReprS : List V → Hp → VK → Prop := fun xs H Q => ∃ x : Str, xs = [.str x] ∧ (reprText x).length ≤ sizeLine ∧ Q (.str (reprText x)) H
theorem call_reprS {X : Cx} : CallR X (.builtin "repr") rReprS := by
  intro pins s σ H xs us Q I r q
  obtain ⟨x, rfl, ln, q⟩ := q
  obtain ⟨u, rfl, ru⟩ := vals1 r
  obtain ⟨t, rfl⟩ := ru
  refine PySem.P.repr_of_str ?_ ln
  exact ⟨.str (reprText x), H, I.turnedL (ch := []) (fun b o _ e => e) (fun b z => by cases z), ⟨_, rfl⟩, q⟩
theorem call_or {X : Cx} {f : Value} {r r' : List V → Hp → VK → Prop} (h : CallR X f r) (h' : CallR X f r') : CallR X f (fun xs H Q => r xs H Q ∨ r' xs H Q) := by
  intro pins s σ H xs us Q I rv q
  rcases q with q | q
  · exact h pins s σ H xs us Q I rv q
  · exact h' pins s σ H xs us Q I rv q
theorem i_reprS {H : Hp} {Q : VK} {x : Str} (h : (reprText x).length ≤ 100000) (q : Q (.str (reprText x)) H) : rReprS [.str x] H Q := ⟨x, rfl, sl_of h, q⟩
theorem bools_show (bs : List Bool) : PyData.showableAll (bs.map PyData.bool) = true := by
  induction bs with
  | nil => rfl
  | cons b bs ih => simp [PyData.showableAll, PyData.showable, ih]
theorem bools_dict (bs : List Bool) : PyData.hasDictAll (bs.map PyData.bool) = false := by
  induction bs with
  | nil => rfl
  | cons b bs ih => simp [PyData.hasDictAll, PyData.hasDict, ih]
theorem bools_deep (bs : List Bool) : PyData.depthAll (bs.map PyData.bool) = 0 := by
  induction bs with
  | nil => rfl
  | cons b bs ih => simp [PyData.depthAll, PyData.depth, ih]
theorem bools_len (bs : List Bool) : ((PyData.shownAll (bs.map PyData.bool)).map fun x => x.length).sum ≤ 5 * bs.length := by
  induction bs with
  | nil => exact Nat.le_refl _
  | cons b bs ih =>
    have h : (PyData.bool b).shown.length ≤ 5 := by
      cases b <;> decide +kernel
    rw [List.map_cons, PyData.shownAll, List.map_cons, List.sum_cons, List.length_cons]
    omega
theorem shownAll_len (ds : List PyData) : (PyData.shownAll ds).length = ds.length := by
  induction ds with
  | nil => rfl
  | cons d ds ih => simp [PyData.shownAll, ih]
theorem list_len (ds : List PyData) : (PyData.list ds).shown.length ≤ ((PyData.shownAll ds).map fun x => x.length).sum + 2 * ds.length + 2 := by
  have l1 : ("[" : Str).length = 1 := by decide +kernel
  have l2 : ("]" : Str).length = 1 := by decide +kernel
  have l3 : (", " : Str).length = 2 := by decide +kernel
  rw [PyData.shown_list, app_len, app_len, l1, l2]
  cases ds with
  | nil =>
    have : ((", " : Str).join (PyData.shownAll [])).length = 0 := by decide +kernel
    omega
  | cons d ds =>
    have e := PyProof.Rows.len_join_cons (", " : Str) d.shown (PyData.shownAll ds)
    rw [show PyData.shownAll (d :: ds) = d.shown :: PyData.shownAll ds from rfl, e, l3, shownAll_len, List.length_cons]
    omega
theorem i_reprB {K : PySem.W.Frag} {H : Hp} {Q : VK} {a : Addr} {bs : List Bool} (h : H a = some (.lst (bs.map V.bl))) (z : bs.length ≤ 1000) (q : Q (.str (dB bs).shown) H) : rReprD K [.ref a] H Q := by
  have g : Dp K H (.ref a) (dB bs) := by
    refine .lst (SqL.of h) ?_
    clear h q z
    induction bs with
    | nil => exact .nil
    | cons n ns ih => exact .cons (.bl n) ih
  refine ⟨a, dB bs, rfl, g, bools_show bs, bools_dict bs, ?_, ?_, q⟩
  · show PyData.depthAll (bs.map PyData.bool) + 1 ≤ 40
    rw [bools_deep]
    decide
  · have e1 := list_len (bs.map PyData.bool)
    have e2 := bools_len bs
    rw [List.length_map] at e1
    refine sl_of ?_
    show (PyData.list (bs.map PyData.bool)).shown.length ≤ _
    omega
section
variable {K : PySem.W.Frag} {H : Hp} {Q : VK} {a b : Addr} {x1 x2 x3 y1 y2 y3 : Str}
/-- two tuples of three texts, compared -/
theorem i_TS3 {r : Str → Str → Bool} {z : Nat → Nat → Bool} (h1 : H a = some (.tup [.str x1, .str x2, .str x3])) (h2 : H b = some (.tup [.str y1, .str y2, .str y3])) (q : Q (.bl (lexS r z [x1, x2, x3] [y1, y2, y3])) H) : rTS K r z (.ref a) (.ref b) H Q := ⟨a, b, [x1, x2, x3], [y1, y2, y3], rfl, rfl, SqT.of h1, SqT.of h2, q⟩
end
end Ly

namespace Ly
open PySem PySem.Spec PyProof.Rows L2
/-! ### which class -/
def MroIs (K : PySem.W.Frag) (C : Addr) (l : List Value) : Prop := ∃ cd, PySem.W.clsIn K C = some cd ∧ cd.mro = l
section
variable {K : PySem.W.Frag} {C D : Addr} {l l' : List Value} {T : String}
theorem mro_sub (m : MroIs K C l) (n : l ≠ []) (base : Value) : PySem.W.subIn K (.ref C) base = some (l.contains base) := by
  obtain ⟨cd, h, rfl⟩ := m
  show PySem.W.mroIn K C base = _
  unfold PySem.W.mroIn
  have : cd.mro.isEmpty = false := by
    cases e : cd.mro with
    | nil => exact (n e).elim
    | cons _ _ => rfl
  rw [h, Option.bind_some, this]
  rfl
theorem kit_cls_of (m : MroIs K C l) (n : l ≠ []) (hd : (l.contains (.ref C)) = true) (m' : MroIs K D l') (t : PySem.W.typeIn K (.ref D) = some (.type "type")) : PySem.W.kitOne K (.ref C) (.ref D) = some (l.contains (.ref D)) := by
  unfold PySem.W.kitOne
  by_cases e : (Value.ref C == Value.ref D) = true
  · have e2 : Value.ref C = Value.ref D := eq_of_beq e
    rw [if_pos e, ← e2, hd]
  · rw [if_neg e]
    obtain ⟨cd, h, _⟩ := m'
    show (if ((PySem.W.clsIn K D).isSome && PySem.W.typeIn K (.ref D) == some (.type "type")) = true then PySem.W.subIn K (.ref C) (.ref D) else none) = _
    rw [h, t, if_pos (by simp), mro_sub m n]
theorem kit_ty_of (m : MroIs K C l) (n : l ≠ []) (k : PySem.W.kitMeta T = true) : PySem.W.kitOne K (.ref C) (.type T) = some (l.contains (.type T)) := by
  unfold PySem.W.kitOne
  rw [if_neg (by intro e; cases eq_of_beq e)]
  show (if PySem.W.kitMeta T = true then PySem.W.subIn K (.ref C) (.type T) else none) = _
  rw [if_pos k, mro_sub m n]
end
/-! ### readings -/
section
variable {σ : L2.St} {H H' : Hp} {Q : VK} {K : PySem.W.Frag} {v x y : V} {ta tb te : TE} {t u tk : TA} {D : Ends} {C a : Addr} {f : Str} {sp : Sp} {fs : List (Str × V)} {b : Bool}
def rXst (K : PySem.W.Frag) (f : Str) (σ : L2.St) (D : Ends) (y x : V) (H2 : Hp) : Prop := ∃ a C : Addr, x = .ref a ∧ ExK K C ∧ PySem.W.findIn K (.ref C) f = some none ∧
  ((H2 a = some (exo a C none) ∧ ∀ d, H2 d = none → d ≠ a → D.nx σ (upd (upd (upd H2 d (exd d [])) a (exo a C (some d))) d (exd d [(f, y)]))) ∨
    ∃ (d : Addr) (fs : List (Str × V)), H2 a = some (exo a C (some d)) ∧ H2 d = some (exd d fs) ∧ fs.length ≤ 900 ∧ D.nx σ (upd H2 d (exd d ((f, y) :: fs))))
theorem i_xst (q : te σ H fun y H1 => ta σ H1 fun x H2 => rXst K f σ D y x H2) : tXst K f ta te D σ H := q
def rXf (K : PySem.W.Frag) (f : Str) : V → Hp → VK → Prop := fun x H1 Q => ∃ (a C d : Addr) (fs : List (Str × V)) (v : V), x = .ref a ∧ ExK K C ∧ PySem.W.findIn K (.ref C) f = some none ∧ H1 a = some (exo a C (some d)) ∧ H1 d = some (exd d fs) ∧ fs.lookup f = some v ∧ Q v H1
theorem i_xf (q : te σ H fun x H1 => rXf K f x H1 Q) : tXf K f te σ H Q := q
theorem i_rxf (e : ExAt H a C fs) (k : ExK K C) (n : PySem.W.findIn K (.ref C) f = some none) (l : fs.lookup f = some v) (q : Q v H) : rXf K f (.ref a) H Q := by
  rcases e with ⟨rfl, _⟩ | ⟨d, e1, e2⟩
  · cases l
  · exact ⟨a, C, d, fs, v, rfl, k, n, e1, e2, l, q⟩
theorem ExAt.same (s : Same H H') (e : ExAt H a C fs) : ExAt H' a C fs := by
  rcases e with ⟨z, e⟩ | ⟨d, e1, e2⟩
  · exact .inl ⟨z, s _ _ e⟩
  · exact .inr ⟨d, s _ _ e1, s _ _ e2⟩
theorem i_isX {cv : Value} {c : V} (e : ExAt H a C fs) (k : ExK K C) (hc : ∀ u, RelV c u → u = cv) (h : PySem.W.kitOne K (.ref C) cv = some b) (q : Q (.bl b) H) : rIsX K [.ref a, c] H Q := ⟨a, C, fs, c, cv, b, rfl, e, k, hc, h, q⟩
theorem i_isXr {D : Addr} (e : ExAt H a C fs) (k : ExK K C) (h : PySem.W.kitOne K (.ref C) (.ref D) = some b) (q : Q (.bl b) H) : rIsX K [.ref a, .ref D] H Q := i_isX (cv := .ref D) e k (fun u r => r) h q
theorem i_isXt {T : String} (e : ExAt H a C fs) (k : ExK K C) (h : PySem.W.kitOne K (.ref C) (.type T) = some b) (q : Q (.bl b) H) : rIsX K [.ref a, .ty T] H Q := i_isX (cv := .type T) e k (fun u r => r) h q
end
/-! ### a def by keywords -/
structure ClK (W : Wd) (k : Nat) (x : Str) (ks : List Str) (sp : Sp) : Prop where
  ex : ∃ (f : Addr) (fd : FuncData) (ps : List Str), FnOk W.P W.w W.K W.mg W.base CX0 k f fd ps sp ∧ W.mg x = some (.ref f) ∧ PySem.W.keepIn W.K (.ref f) = true ∧ KBn W.K fd ps 0 ks (· ++ ·) (· ++ ·)
theorem cl_both {W : Wd} {k : Nat} {x : Str} {st : Stmt} {N ps ks : List Str} {sp : Sp} (g : GF W.K W.mg x st) (S : FnScope N ps (defScope st)) (hb : BindOk x x st ps) (hkb : KBindOk x x st ps 0 ks) (len : ∀ vs H Q E, sp vs H Q E → vs.length = ps.length) (hbody : BodyOk W k N x st sp) :
    Cl W (k + 1) x sp ∧ ClK W (k + 1) x ks sp := by
  obtain ⟨f, fd, F, hm⟩ := g.ex
  have F2 := F.ok S len (fun cdv A outer s H vs Q E => hbody f cdv A outer s H vs Q E)
  exact ⟨⟨f, fd, ps, F2, hm, F.kp, F.binds hb⟩, ⟨f, fd, ps, F2, hm, F.kp, kbn_of F hkb⟩⟩
def rClK (n : Nat) (sp : Sp) : List V → Hp → VK → Prop := fun zs H Q => zs.length = n ∧ sp zs H Q E0
theorem pe_clK0 {X : Cx} {k j : Nat} {x : Str} {ks : List Str} {sp : Sp} {p pos : Pos} {kws : List Keyword} {tk : TA} (c : ClK ⟨X.prog, X.w, X.K, X.mg, X.base⟩ k x ks sp) (hr : Room j X.A) (hk : k ≤ j) (hg : Gl X x) (hkw : PK X kws tk)
    (hall : (backToKw pos (keywordEach kws X.env)).all (·.1.isSome) = true := by rfl) (hks : (backToKw pos (keywordEach kws X.env)).filterMap (·.1) = ks := by rfl) (hdb : (x == ("__debug__" : Str)) = false := by decide)
    (hpl : ((backTo pos (starEach [] X.env)).any (·.1) || (backToKw pos (keywordEach kws X.env)).any (·.1.isNone)) = false := by rfl) :
    PE X (.Call (.Name x p) [] kws pos) (tCB (rClK ks.length sp) tk) := by
  obtain ⟨f, fd, ps, F, hm, kp, b⟩ := c.ex
  refine ⟨fun pins s σ H Q I h => ?_⟩
  refine wpAny_Call_Name_kw (ld_glob I hg hm ?_ hdb)
  refine PySem.W.callWith_KW0 (h₀ := X.base) I.ok.mod.kin kp hall ?_ hpl
  refine thn (hkw.run pos pins s σ H _ I h) fun ws s2 ⟨zs, H2, I2, rz, l2, q2⟩ => ⟨I2.kIn, ?_⟩
  rw [hks]
  exact run_kn (us := []) (vs := []) F (hr.mono hk) b I2 .nil rz rfl l2 q2
theorem i_clK1 {sp : Sp} {v : V} {H : Hp} {Q : VK} (q : sp [v] H Q E0) : rClK 1 sp [v] H Q := ⟨rfl, q⟩
/-! ### lists of the very same values -/
def okS (v : V) : Bool := flatB v || match v with
  | .ref _ => true
  | _ => false
theorem okS_of {v : V} (h : okS v = true) : flatB v = true ∨ ∃ a, v = .ref a := by
  cases v <;> first | exact .inl rfl | exact .inr ⟨_, rfl⟩ | cases h
theorem eqV_same {K : PySem.W.Frag} {H : Hp} {xs : List V} (h : ∀ v ∈ xs, okS v = true) : Paired (EqV K H 1) xs xs := by
  induction xs with
  | nil => exact .nil
  | cons v xs ih =>
    refine .cons ?_ (ih fun w hw => h w (List.mem_cons_of_mem _ hw))
    rcases okS_of (h v List.mem_cons_self) with f | ⟨a, rfl⟩
    · exact .inl ⟨rfl, f⟩
    · exact .inr (.inl ⟨a, rfl, rfl⟩)
theorem i_eqS {K : PySem.W.Frag} {H : Hp} {Q : VK} {a b : Addr} {xs : List V} (h1 : H a = some (.lst xs)) (h2 : H b = some (.lst xs)) (h : ∀ v ∈ xs, okS v = true) (q : Q (.bl true) H) : rEqV K (.ref a) (.ref b) H Q :=
  ⟨1, by decide, .inl ⟨a, b, xs, xs, rfl, rfl, SqL.of h1, SqL.of h2, eqV_same h⟩, q⟩
def rNeS (K : PySem.W.Frag) : R2 := fun x y H Q => ∃ a b xs, x = .ref a ∧ y = .ref b ∧ SqL K H a xs ∧ SqL K H b xs ∧ (∀ v ∈ xs, okS v = true) ∧ Q (.bl false) H
theorem op_neS {X : Cx} (hu : X.A.units + 64 < cLine) : OpR X (compareOp .NotEq) (rNeS X.K) := by
  intro pins s σ H x y v u Q I rx ry h
  obtain ⟨a, b, xs, rfl, rfl, ha, hb, ok, q⟩ := h
  cases rx
  cases ry
  obtain ⟨us, r1, p1, _⟩ := I.list ha
  obtain ⟨ws, r2, p2, _⟩ := I.list hb
  have hsz : us.toArray.size = ws.toArray.size := by
    rw [List.size_toArray, List.size_toArray, ← r1.length, ← r2.length]
  have key : ∀ j (h1 : j < us.toArray.size) (h2 : j < ws.toArray.size), SeqAt.EqAt X.A.in1 s us.toArray[j] ws.toArray[j] true := by
    have core : ∀ {xs : List V} {us ws : List Value}, Vals xs us → Vals xs ws → (∀ v ∈ xs, okS v = true) → ∀ j (h1 : j < us.length) (h2 : j < ws.length), SeqAt.EqAt X.A.in1 s us[j] ws[j] true := by
      intro xs
      induction xs with
      | nil =>
        intro us ws r1 _ _ j h1
        cases r1
        exact absurd h1 (Nat.not_lt_zero j)
      | cons v xs ih =>
        intro us ws r1 r2 ok j h1 h2
        cases r1 with
        | cons a1 b1 =>
          cases r2 with
          | cons a2 b2 =>
            cases j with
            | zero =>
              rcases okS_of (ok v List.mem_cons_self) with f | ⟨a, rfl⟩
              · exact eqAt_same a1 a2 f
              · cases a1
                cases a2
                exact SeqAt.EqAt.same _
            | succ j => exact ih b1 b2 (fun w hw => ok w (List.mem_cons_of_mem _ hw)) j (Nat.lt_of_succ_lt_succ h1) (Nat.lt_of_succ_lt_succ h2)
    intro j h1 h2
    have := core r1 r2 ok j (by simpa using h1) (by simpa using h2)
    simpa using this
  have z := SeqAt.RcNeAt.lists (e := fun _ => true) p1.isList p2.isList hsz (A := X.A) (by omega) key
  rw [show ((List.range us.toArray.size).all fun _ => true) = true from List.all_eq_true.mpr fun _ _ => rfl] at z
  exact z _ _ _ _ ⟨.bl false, H, I, rfl, q⟩
theorem i_neS {K : PySem.W.Frag} {H : Hp} {Q : VK} {a b : Addr} {xs : List V} (h1 : H a = some (.lst xs)) (h2 : H b = some (.lst xs)) (h : ∀ v ∈ xs, okS v = true) (q : Q (.bl false) H) : rNeS K (.ref a) (.ref b) H Q :=
  ⟨a, b, xs, rfl, rfl, SqL.of h1, SqL.of h2, h, q⟩
/-! ### others -/
def rTupOf (K : PySem.W.Frag) : List V → Hp → VK → Prop := fun xs H Q => ∃ p ys, xs = [.ref p] ∧ ((SqL K H p ys ∧ ∀ l, H l = none → Q (.ref l) (upd H l (.tup ys))) ∨ (SqT K H p ys ∧ Q (.ref p) H))
theorem call_tupleU {X : Cx} : CallR X (.type "tuple") (rTupOf X.K) := call_tuple_of
theorem i_tupOf {K : PySem.W.Frag} {H : Hp} {Q : VK} {p : Addr} {ys : List V} (h : H p = some (.lst ys)) (q : ∀ l, H l = none → Q (.ref l) (upd H l (.tup ys))) : rTupOf K [.ref p] H Q := ⟨p, ys, rfl, .inl ⟨SqL.of h, q⟩⟩
def rInSg : R2 := fun x y H Q => ∃ (c : Nat) (z : Str), x = .str ⟨#[c]⟩ ∧ y = .str z ∧ Q (.bl (decide (c ∈ z.cps.toList))) H
theorem op_inSg {X : Cx} : OpR X (compareOp .In) rInSg := op_in_sign
theorem i_inSg {H : Hp} {Q : VK} {c : Nat} {z : Str} (q : Q (.bl (decide (c ∈ z.cps.toList))) H) : rInSg (.str ⟨#[c]⟩) (.str z) H Q := ⟨c, z, rfl, rfl, q⟩
end Ly

namespace Ly
open PySem PySem.Spec PyProof.Rows L2
section
variable {K : PySem.W.Frag} {h : Heap} {mg : Str → Option Value} {f C : Addr} {oc kV doc pm cdv ct : Value} {od an : Option Addr} {osl : Array (Option Value)} {x qual : Str} {st : Stmt} {o : Obj} {cd : ClassData} {l : List Value} {B newId initId : String} {bmB : List Value}
theorem mro_mk (h : PySem.W.clsIn K C = some cd) (e : cd.mro = l) : MroIs K C l := ⟨cd, h, e⟩
theorem one_look : List.lookup C [(C, o)] = some o := by
  simp [List.lookup]
theorem xi_mk (lk : K.lookup C = some o) (e : PySem.W.excInitIn [(C, o)] C bmB newId = true) : PySem.W.excInitIn K C bmB newId = true := by
  have a : PySem.W.excInitIn K C bmB newId = PySem.W.excInitIn [(C, o)] C bmB newId := by
    unfold PySem.W.excInitIn
    rw [lk, one_look]
  rw [a, e]
theorem ov_mk (lk : K.lookup C = some o) (e : PySem.W.excOver [(C, o)] C bmB = true) : PySem.W.excOver K C bmB = true := by
  have a : PySem.W.excOver K C bmB = PySem.W.excOver [(C, o)] C bmB := by
    unfold PySem.W.excOver PySem.W.clsIn
    rw [lk, one_look]
  rw [a, e]
theorem exk_mk (fb : ExcBaseFacts B newId initId bmB) (sf : StoreFacts B bmB "object.__setattr__" "object") (lk : K.lookup C = some o) (e1 : PySem.W.excInitIn [(C, o)] C bmB newId = true) (e2 : PySem.W.excOver [(C, o)] C bmB = true)
    (hd : PySem.W.hasDictIn K C = true) (sa : PySem.W.findIn K (.ref C) "__setattr__" = some (some (.builtin "object.__setattr__"))) (ga : PySem.W.findIn K (.ref C) "__getattribute__" = some (some (.builtin "BaseException.__getattribute__")))
    (gg : PySem.W.findIn K (.ref C) "__getattr__" = some none) (exC : PySem.W.subIn K (.ref C) (.type "BaseException") = some true) (kC : PySem.W.keepIn K (.ref C) = true) (ha : PySem.W.findIn K (.ref C) "__class__" = some (some (.builtin "object.__class__")))
    (hn : PySem.W.specialIn K (.builtin "object.__class__") "__get__" = some (some (.builtin "getset_descriptor.__get__"))) (ht : PySem.W.takesIn K (.builtin "object.__class__") = some true) (hm : PySem.W.mroIn K C (.type "object") = some true) : ExK K C :=
  ⟨⟨B, newId, initId, bmB, fb, sf, xi_mk lk e1, ov_mk lk e2⟩, hd, sa, ga, gg, exC, kC, ha, hn, ht, hm⟩
theorem gx_mk (X : K.In h) (G : h.Ns mainGlobals mg) (a : PySem.W.nsIn K mainGlobals x = some (some (.ref C))) (xk : ExK K C) (i : PySem.W.findIn K (.ref C) "__init__" = some (some (.ref f))) (t : PySem.W.typeIn K (.ref f) = some (.type "function"))
    (l : K.lookup f = some ⟨oc, od, .func (PySem.W.fnOf "__init__" qual (defArgs st) (defBody st) (defScope st) .none kV doc pm an cdv ct), osl⟩) (c : PySem.W.codeIn K cdv qual = true) (k : PySem.W.keepIn K (.ref f) = true) : GX K mg x C qual st :=
  ⟨xk, PySem.W.mg_of X G a, f, _, fun_mk l c k, i, t⟩
end
end Ly

/-! the end over a head that is run in the kernel -/
namespace Ly
open PySem PySem.Spec PyProof.Rows L2
/-! ### defs -/
section
variable {K : PySem.W.Frag} {h : Heap} {mg : Str → Option Value} {x qual : Str} {st : Stmt} {f : Addr} {fd : FuncData}
theorem fun_of (F : FunD K x qual (defArgs st) (defBody st) (defScope st) [] [] f fd) : L2.Fun K x qual st f fd := by
  obtain ⟨oc, od, dV, kV, doc, pm, an, cdv, ct, osl, rfl, lk, hcd, hD, hK⟩ := F.ex
  rcases hD with ⟨_, rfl⟩ | ⟨e, _⟩
  · exact fun_mk lk hcd F.kp
  · exact absurd rfl e
theorem gf_of (X : K.In h) (G : h.Ns mainGlobals mg) (c : (He.Fa.glo x).ok K = true) (d : ∃ fd, FunD K (dfn x st).name (dfn x st).qual (dfn x st).params (dfn x st).body (dfn x st).scope ((dfn x st).dvs K) ((dfn x st).kws K) (He.fAd K (dfn x st).at_) fd) : GF K mg x st := by
  obtain ⟨fd, F⟩ := d
  exact ⟨He.ga K x, fd, fun_of F, He.glo_ok X G c⟩
end
/-! ### exception classes, by their names -/
theorem bFacts (k : Nat) : ∃ newId, newId = bNew k ∧ ∃ B initId, ExcBaseFacts B newId initId (bTail k) ∧ StoreFacts B (bTail k) "object.__setattr__" "object" := by
  match k with
  | 0 => exact ⟨_, rfl, _, _, PySem.F.excBase_ValueError, PySem.F.store_ValueError⟩
  | 1 => exact ⟨_, rfl, _, _, PySem.F.excBase_LookupError, PySem.F.store_LookupError⟩
  | 2 => exact ⟨_, rfl, _, _, PySem.F.excBase_RuntimeError, PySem.F.store_RuntimeError⟩
  | _ + 3 => exact ⟨_, rfl, _, _, PySem.F.excBase_ArithmeticError, PySem.F.store_ArithmeticError⟩
theorem mroB_ok {K : PySem.W.Frag} {C : Addr} {l : List Value} (h : mroB K C l = true) : MroIs K C l := by
  unfold mroB at h
  split at h
  · rename_i cd e
    exact ⟨cd, e, of_decide_eq_true h⟩
  · cases h
theorem exB_ok {K : PySem.W.Frag} {C : Addr} {k : Nat} (h : exB K C k = true) : ExK K C := by
  obtain ⟨h1, h⟩ := He.ba h
  obtain ⟨h2, h⟩ := He.ba h
  obtain ⟨h3, h⟩ := He.ba h
  obtain ⟨h4, h⟩ := He.ba h
  obtain ⟨h5, h⟩ := He.ba h
  obtain ⟨h6, h⟩ := He.ba h
  obtain ⟨h7, h⟩ := He.ba h
  obtain ⟨h8, h⟩ := He.ba h
  obtain ⟨h9, h⟩ := He.ba h
  obtain ⟨h10, h⟩ := He.ba h
  obtain ⟨h11, h12⟩ := He.ba h
  obtain ⟨newId, en, B, initId, fb, sf⟩ := bFacts k
  rw [← en] at h1
  exact ⟨⟨B, newId, initId, bTail k, fb, sf, h1, h2⟩, h3, He.eqO_ok h4, He.eqO_ok h5, He.eqO_ok h6, of_decide_eq_true h7, h8, He.eqO_ok h9, He.eqO_ok h10, of_decide_eq_true h11, of_decide_eq_true h12⟩
theorem gx_of {K : PySem.W.Frag} {h : Heap} {mg : Str → Option Value} {x qual : Str} {st : Stmt} {d : LeafD} (X : K.In h) (G : h.Ns mainGlobals mg) (hx : d.nm = x) (l : leafB K d = true) (c : (He.Fa.glo x).ok K = true)
    (F : ∃ fd, FunD K (dme x "__init__" qual st).name (dme x "__init__" qual st).qual (dme x "__init__" qual st).params (dme x "__init__" qual st).body (dme x "__init__" qual st).scope ((dme x "__init__" qual st).dvs K) ((dme x "__init__" qual st).kws K) (He.fAd K (dme x "__init__" qual st).at_) fd) : GX K mg x (He.ga K x) qual st := by
  subst hx
  obtain ⟨h1, l⟩ := He.ba l
  obtain ⟨h2, l⟩ := He.ba l
  obtain ⟨h3, l⟩ := He.ba l
  obtain ⟨h4, h5⟩ := He.ba l
  obtain ⟨fd, F⟩ := F
  exact ⟨exB_ok h1, He.glo_ok X G c, He.ma K (He.ga K d.nm) "__init__", fd, fun_of F, He.eqO_ok h4, of_decide_eq_true h5⟩
theorem leaf_mro {K : PySem.W.Frag} {d : LeafD} (l : leafB K d = true) : MroIs K (He.ga K d.nm) (.ref (He.ga K d.nm) :: .ref (He.ga K d.base) :: bTail d.k) := by
  obtain ⟨h1, l⟩ := He.ba l
  exact mroB_ok (He.ba l).1
theorem leaf_ty {K : PySem.W.Frag} {d : LeafD} (l : leafB K d = true) : PySem.W.typeIn K (.ref (He.ga K d.nm)) = some (.type "type") := by
  obtain ⟨h1, l⟩ := He.ba l
  obtain ⟨h2, l⟩ := He.ba l
  exact of_decide_eq_true (He.ba l).1
theorem base_mro {K : PySem.W.Frag} {d : Str × Nat} (l : baseB K d = true) : MroIs K (He.ga K d.1) (.ref (He.ga K d.1) :: bTail d.2) := mroB_ok (He.ba l).1
theorem base_ty {K : PySem.W.Frag} {d : Str × Nat} (l : baseB K d = true) : PySem.W.typeIn K (.ref (He.ga K d.1)) = some (.type "type") := of_decide_eq_true (He.ba l).2
/-! ### the law's end -/
theorem walk_ofGE {l : PySem.W.OpenLaw} {n k : Nat} {q : Program} {loose : List Str} {XP : (Str → Option Value) → Heap → Prop} {YP : World → Heap → Prop} {d : DefRec} {x : Str} (hn : l.most = some n) (hn2 : n ≤ sizeLine) (hdf : d.params.defaults = []) (hr : Room k callerA)
    (F : ∀ (w : World) (mg : Str → Option Value) (fa : Addr) (h : Heap), YP w h → h.Ns mainGlobals mg → mg d.name = some (.ref fa) → ∃ (K : PySem.W.Frag) (fd : FuncData) (sp : Sp), K.In h ∧ (∀ (s : Shared) (u : Value), BindsTo s fd ⟨[u], []⟩ [(x, u)]) ∧
      (∀ (H : Hp) (a : Addr) (ns : List Int), ns.length ≤ n → Only H → SqL K H a (ns.map V.int) → sp [.ref a] H (fun v _ => v = .bl true) fun _ _ _ => False) ∧ ∀ base : Heap, K.In base → base.Ns mainGlobals mg → FnG l.prog w K mg base k fa fd [x] sp) :
    PySem.W.WalkO q loose XP YP l.row.toRowW d [] (fun f vs => PySem.call f vs) := by
  refine Att.attach_call hn hdf fun w s₀ s₁ mg mb fa o pm cd doc a vs ns G Y ho hd hcd hmg hobj hints hlen hg => ?_
  obtain ⟨K, fd, sp, KX, hb, hsp, hF⟩ := F w mg fa _ Y G.T.g hmg
  exact law_callG KX G.T.g G.T.b G.T.builtins G.T.nolimit hg hobj hints (Nat.le_trans hlen hn2) hr hF hb fun H hO hS => hsp H a ns hlen hO hS
end Ly

namespace Ly
open PySem PySem.Spec PyProof.Rows L2
section
variable {K : PySem.W.Frag} {σ : L2.St} {H : Hp} {Q : VK} {te : TE} {x : Str} {n j : Nat} {vs : List Nat}
/-- over the signs of a text, no test -/
theorem i_lcS (G : Nat → Hp → V → Prop) (hv : σ[n]? = some (some (.str x))) (hz : x.length ≤ 1000) (mono : ∀ i H1 H2 v, NL H1 H2 → G i H1 v → G i H2 v) (hw : ∀ y, wipe ((wipe σ vs).set j (some y)) vs = wipe σ vs)
    (turn : ∀ i c H' (Q' : VK), x.cps[i]? = some c → Same H H' → (∀ y H4, Same H' H4 → G i H4 y → Q' y H4) → te ((wipe σ vs).set j (some (.str ⟨#[c]⟩))) H' Q')
    (fin : ∀ r H' ys, H r = none → Same H H' → H' r = some (.lst ys) → ys.length = x.length → (∀ i v, ys[i]? = some v → G i H' v) → Q (.ref r) H') : tLc (iStr (tVar n)) (gName j) tYes te vs σ H Q := by
  refine ⟨_, hv, x, rfl, fun D nD => ?_⟩
  have same0 : Same H (upd H D (.lst [])) := fun c o e => by
    rw [upd_ne (ne_of_none e nD)]
    exact e
  refine ⟨fun i m H' => m = x.cps.size - i ∧ i ≤ x.cps.size ∧ ∃ ys, H' D = some (.lst ys) ∧ ys.length = i ∧ Same H H' ∧ ∀ k v, ys[k]? = some v → G k H' v, ⟨_, rfl, Nat.zero_le _, [], upd_same, rfl, same0, fun m v e => by simp at e⟩, ?_⟩
  rintro i m H' ⟨rfl, hi, ys, hD, hy, s, g⟩
  by_cases h : i < x.cps.size
  · refine .inr ⟨h, fun H2 => ∃ ys, H2 D = some (.lst ys) ∧ ys.length = i + 1 ∧ Same H H2 ∧ ∀ k v, ys[k]? = some v → G k H2 v, fun H2 h2 => ⟨_, by omega, rfl, h, h2⟩, ?_⟩
    rintro v H2 ⟨rfl, c, hc, rfl⟩
    refine ⟨hw _, ?_⟩
    show te ((wipe σ vs).set j (some (.str ⟨#[c]⟩))) H2 _
    refine turn i c H2 _ hc s fun y H4 s4 gy => ⟨ys, s4 _ _ hD, by rw [hy]; exact small1000 (Nat.le_trans (Nat.le_of_lt h) hz), ys ++ [y], upd_same, by rw [List.length_append, hy]; rfl, fun c o e => ?_, fun k v e => ?_⟩
    · rw [upd_ne (ne_of_none e nD)]
      exact s4 _ _ (s _ _ e)
    · have kk := NL.upd (ys := ys ++ [y]) (s4 _ _ hD)
      rcases Nat.lt_or_ge k ys.length with h | h
      · rw [List.getElem?_append_left h] at e
        exact mono k _ _ v kk (mono k _ _ v (NL.same s4) (g k v e))
      · rw [List.getElem?_append_right h] at e
        have : k - ys.length = 0 := by
          have := (List.getElem?_eq_some_iff.mp e).1
          simp at this
          omega
        rw [this] at e
        have e2 : y = v := Option.some.inj e
        subst e2
        have : k = i := by omega
        subst this
        exact mono _ _ _ y kk gy
  · have e : i = x.cps.size := by omega
    subst e
    exact .inl ⟨Nat.le_refl _, fin D H' ys nD s hD hy g⟩
end

/-- pointwise bools -/
theorem bl_map {α : Type} {l : List α} {f : α → Bool} {ys : List V} (hl : ys.length = l.length) (h : ∀ (i : Nat) (v : V), ys[i]? = some v → ∃ c, l[i]? = some c ∧ v = V.bl (f c)) : ys = (l.map f).map V.bl := by
  apply List.ext_getElem?
  intro i
  rcases Nat.lt_or_ge i ys.length with k | k
  · obtain ⟨c, hc, e⟩ := h i ys[i] (List.getElem?_eq_getElem k)
    rw [List.getElem?_eq_getElem k, e, List.getElem?_map, List.getElem?_map, hc]
    rfl
  · rw [List.getElem?_eq_none k, List.getElem?_eq_none (by rw [List.length_map, List.length_map]; omega)]
theorem i_all {K : PySem.W.Frag} {H : Hp} {Q : VK} {r : Addr} {bs : List Bool} (h : H r = some (.lst (bs.map V.bl))) (q : Q (.bl (bs.all id)) H) : rAll K [.ref r] H Q := ⟨r, bs, rfl, SqL.of h, q⟩
end Ly

/-! A name by isascii, isalpha, islower: only letters from a to z. -/
namespace Ly
open PySem PySem.Spec PyProof.Rows L2
def lowB (c : Nat) : Bool := decide (97 ≤ c) && decide (c ≤ 122)
def uppB (c : Nat) : Bool := decide (65 ≤ c) && decide (c ≤ 90)
theorem sg_alpha : ∀ c : Fin 128, Unicode.isAlpha c.val = (lowB c.val || uppB c.val) := by decide +kernel
theorem sg_lower : ∀ c : Fin 128, Unicode.isLower c.val = lowB c.val := by decide +kernel
theorem sg_upper : ∀ c : Fin 128, (Unicode.isUpper c.val || Unicode.isTitle c.val) = uppB c.val := by decide +kernel
theorem tx_ascii (x : Str) : Txt.isascii x = x.cps.toList.all (fun c => decide (c < 128)) := by
  unfold Txt.isascii
  rw [← Array.all_toList]
theorem tx_alpha (x : Str) : Txt.isalpha x = (decide (x.length > 0) && x.cps.toList.all Unicode.isAlpha) := by
  unfold Txt.isalpha
  rw [← Array.all_toList]
theorem tx_lower (x : Str) : Txt.islower x = (x.cps.toList.any Unicode.isLower && !x.cps.toList.any (fun c => Unicode.isUpper c || Unicode.isTitle c)) := by
  unfold Txt.islower
  rw [← Array.any_toList, ← Array.any_toList]
theorem str_len (x : Str) : x.length = x.cps.toList.length := (Array.length_toList ..).symm
theorem low_upp {c : Nat} (h : lowB c = true) : uppB c = false := by
  unfold lowB at h
  unfold uppB
  rw [Bool.and_eq_true, decide_eq_true_eq, decide_eq_true_eq] at h
  rw [decide_eq_false (show ¬ c ≤ 90 by omega), Bool.and_false]
theorem name_signs (x : Str) : (Txt.isascii x && (Txt.isalpha x && Txt.islower x)) = (decide (1 ≤ x.length) && x.cps.toList.all lowB) := by
  rw [tx_ascii, tx_alpha, tx_lower, str_len]
  cases he : x.cps.toList with
  | nil => rfl
  | cons c0 cs =>
    rw [show decide ((c0 :: cs).length > 0) = true from decide_eq_true (Nat.succ_pos _), show decide (1 ≤ (c0 :: cs).length) = true from decide_eq_true (Nat.succ_pos _), Bool.true_and, Bool.true_and]
    by_cases h : (c0 :: cs).all lowB = true
    · rw [h]
      have hm := List.all_eq_true.mp h
      have lt : ∀ c ∈ c0 :: cs, c < 128 := fun c m => by
        have z := hm c m
        unfold lowB at z
        rw [Bool.and_eq_true, decide_eq_true_eq, decide_eq_true_eq] at z
        omega
      have e1 : (c0 :: cs).all (fun c => decide (c < 128)) = true := List.all_eq_true.mpr fun c m => decide_eq_true (lt c m)
      have e2 : (c0 :: cs).all Unicode.isAlpha = true := List.all_eq_true.mpr fun c m => by
        rw [sg_alpha ⟨c, lt c m⟩, hm c m]
        rfl
      have e3 : (c0 :: cs).any Unicode.isLower = true := List.any_eq_true.mpr ⟨c0, List.mem_cons_self, by
        rw [sg_lower ⟨c0, lt c0 List.mem_cons_self⟩]
        exact hm c0 List.mem_cons_self⟩
      have e4 : (c0 :: cs).any (fun c => Unicode.isUpper c || Unicode.isTitle c) = false := by
        rw [Bool.eq_false_iff]
        intro z
        obtain ⟨c, m, hc⟩ := List.any_eq_true.mp z
        rw [sg_upper ⟨c, lt c m⟩, low_upp (hm c m)] at hc
        cases hc
      rw [e1, e2, e3, e4]
      rfl
    · rw [Bool.eq_false_iff.mpr h]
      rw [Bool.eq_false_iff]
      intro z
      rw [Bool.and_eq_true, Bool.and_eq_true, Bool.and_eq_true] at z
      obtain ⟨z1, z2, z3, z4⟩ := z
      refine h (List.all_eq_true.mpr fun c m => ?_)
      have l : c < 128 := by simpa using List.all_eq_true.mp z1 c m
      have a := List.all_eq_true.mp z2 c m
      rw [sg_alpha ⟨c, l⟩] at a
      have u : uppB c = false := by
        rw [Bool.eq_false_iff]
        intro q
        have : (c0 :: cs).any (fun c => Unicode.isUpper c || Unicode.isTitle c) = true := List.any_eq_true.mpr ⟨c, m, by
          rw [sg_upper ⟨c, l⟩]
          exact q⟩
        rw [this] at z4
        cases z4
      rw [u, Bool.or_false] at a
      exact a

section
variable {K : PySem.W.Frag} {σ : L2.St} {H : Hp} {Q : VK} {x : Str} {n : Nat}
theorem i_sgn {g : Str → Bool} (h : σ[n]? = some (some (.str x))) (q : Q (.bl (g x)) H) : tBM0 K "str" (fun x xs H Q => ∃ a, x = V.str a ∧ xs = [] ∧ True ∧ Q (V.bl (g a)) H) (tVar n) σ H Q :=
  ⟨.str x, h, rfl, x, rfl, rfl, trivial, q⟩
/-- isascii and isalpha and islower of a name -/
theorem i_name (h : σ[n]? = some (some (.str x))) (q : Q (.bl (decide (1 ≤ x.length) && x.cps.toList.all lowB)) H) :
    tAndV (tBM0 K "str" (fun x xs H Q => ∃ a, x = V.str a ∧ xs = [] ∧ True ∧ Q (V.bl (Txt.isascii a)) H) (tVar n))
      (tAndV (tBM0 K "str" (fun x xs H Q => ∃ a, x = V.str a ∧ xs = [] ∧ True ∧ Q (V.bl (Txt.isalpha a)) H) (tVar n))
        (tBM0 K "str" (fun x xs H Q => ∃ a, x = V.str a ∧ xs = [] ∧ True ∧ Q (V.bl (Txt.islower a)) H) (tVar n))) σ H Q := by
  rw [← name_signs] at q
  refine i_andV ?_
  refine i_sgn h ⟨_, rfl, ?_⟩
  cases h1 : Txt.isascii x with
  | false =>
    rw [h1] at q
    exact q
  | true =>
    rw [h1] at q
    rw [if_pos rfl]
    refine i_andV ?_
    refine i_sgn h ⟨_, rfl, ?_⟩
    cases h2 : Txt.isalpha x with
    | false =>
      rw [h2] at q
      exact q
    | true =>
      rw [h2] at q
      rw [if_pos rfl]
      exact i_sgn h q
end
end Ly

namespace Lw
open PySem PySem.Spec PyProof.Rows L2 Ly
abbrev N_is_integer : List Str := ["value"]
theorem sc_is_integer : FnScope N_is_integer ["value"] (defScope s_is_integer) := ⟨rfl, rfl, rfl, by decide +kernel, rfl, by decide +kernel, by decide +kernel⟩
theorem bd_is_integer : BindOk "is_integer" "is_integer" s_is_integer ["value"] := fun _ _ _ _ _ _ us hl => match us, hl with | [_], _ => rfl
abbrev N_is_count : List Str := ["value"]
theorem sc_is_count : FnScope N_is_count ["value"] (defScope s_is_count) := ⟨rfl, rfl, rfl, by decide +kernel, rfl, by decide +kernel, by decide +kernel⟩
theorem bd_is_count : BindOk "is_count" "is_count" s_is_count ["value"] := fun _ _ _ _ _ _ us hl => match us, hl with | [_], _ => rfl
abbrev N_is_name : List Str := ["value"]
theorem sc_is_name : FnScope N_is_name ["value"] (defScope s_is_name) := ⟨rfl, rfl, rfl, by decide +kernel, rfl, by decide +kernel, by decide +kernel⟩
theorem bd_is_name : BindOk "is_name" "is_name" s_is_name ["value"] := fun _ _ _ _ _ _ us hl => match us, hl with | [_], _ => rfl
abbrev N_InvalidNumber_init : List Str := ["self", "value"]
theorem sc_InvalidNumber_init : FnScope N_InvalidNumber_init ["self", "value"] (defScope s_InvalidNumber_init) := ⟨rfl, rfl, rfl, by decide +kernel, rfl, by decide +kernel, by decide +kernel⟩
theorem xb_InvalidNumber : XBindOk "InvalidNumber.__init__" s_InvalidNumber_init ["self", "value"] 1 [] := fun _ _ _ _ _ _ us ws hl h2 => match us, ws, hl, h2 with | [_, _], [], _, _ => rfl
theorem xk_InvalidNumber : XBindOk "InvalidNumber.__init__" s_InvalidNumber_init ["self", "value"] 0 ["value"] := fun _ _ _ _ _ _ us ws hl h2 => match us, ws, hl, h2 with | [_], [_], _, _ => rfl
abbrev N_InvalidName_init : List Str := ["self", "value"]
theorem sc_InvalidName_init : FnScope N_InvalidName_init ["self", "value"] (defScope s_InvalidName_init) := ⟨rfl, rfl, rfl, by decide +kernel, rfl, by decide +kernel, by decide +kernel⟩
theorem xb_InvalidName : XBindOk "InvalidName.__init__" s_InvalidName_init ["self", "value"] 1 [] := fun _ _ _ _ _ _ us ws hl h2 => match us, ws, hl, h2 with | [_, _], [], _, _ => rfl
theorem xk_InvalidName : XBindOk "InvalidName.__init__" s_InvalidName_init ["self", "value"] 0 ["value"] := fun _ _ _ _ _ _ us ws hl h2 => match us, ws, hl, h2 with | [_], [_], _, _ => rfl
abbrev N_InvalidMoves_init : List Str := ["self", "position"]
theorem sc_InvalidMoves_init : FnScope N_InvalidMoves_init ["self", "position"] (defScope s_InvalidMoves_init) := ⟨rfl, rfl, rfl, by decide +kernel, rfl, by decide +kernel, by decide +kernel⟩
theorem xb_InvalidMoves : XBindOk "InvalidMoves.__init__" s_InvalidMoves_init ["self", "position"] 1 [] := fun _ _ _ _ _ _ us ws hl h2 => match us, ws, hl, h2 with | [_, _], [], _, _ => rfl
theorem xk_InvalidMoves : XBindOk "InvalidMoves.__init__" s_InvalidMoves_init ["self", "position"] 0 ["position"] := fun _ _ _ _ _ _ us ws hl h2 => match us, ws, hl, h2 with | [_], [_], _, _ => rfl
abbrev N_InvalidServers_init : List Str := ["self", "value"]
theorem sc_InvalidServers_init : FnScope N_InvalidServers_init ["self", "value"] (defScope s_InvalidServers_init) := ⟨rfl, rfl, rfl, by decide +kernel, rfl, by decide +kernel, by decide +kernel⟩
theorem xb_InvalidServers : XBindOk "InvalidServers.__init__" s_InvalidServers_init ["self", "value"] 1 [] := fun _ _ _ _ _ _ us ws hl h2 => match us, ws, hl, h2 with | [_, _], [], _, _ => rfl
theorem xk_InvalidServers : XBindOk "InvalidServers.__init__" s_InvalidServers_init ["self", "value"] 0 ["value"] := fun _ _ _ _ _ _ us ws hl h2 => match us, ws, hl, h2 with | [_], [_], _, _ => rfl
abbrev N_InvalidSpeed_init : List Str := ["self", "server"]
theorem sc_InvalidSpeed_init : FnScope N_InvalidSpeed_init ["self", "server"] (defScope s_InvalidSpeed_init) := ⟨rfl, rfl, rfl, by decide +kernel, rfl, by decide +kernel, by decide +kernel⟩
theorem xb_InvalidSpeed : XBindOk "InvalidSpeed.__init__" s_InvalidSpeed_init ["self", "server"] 1 [] := fun _ _ _ _ _ _ us ws hl h2 => match us, ws, hl, h2 with | [_, _], [], _, _ => rfl
theorem xk_InvalidSpeed : XBindOk "InvalidSpeed.__init__" s_InvalidSpeed_init ["self", "server"] 0 ["server"] := fun _ _ _ _ _ _ us ws hl h2 => match us, ws, hl, h2 with | [_], [_], _, _ => rfl
abbrev N_InvalidTasks_init : List Str := ["self", "value"]
theorem sc_InvalidTasks_init : FnScope N_InvalidTasks_init ["self", "value"] (defScope s_InvalidTasks_init) := ⟨rfl, rfl, rfl, by decide +kernel, rfl, by decide +kernel, by decide +kernel⟩
theorem xb_InvalidTasks : XBindOk "InvalidTasks.__init__" s_InvalidTasks_init ["self", "value"] 1 [] := fun _ _ _ _ _ _ us ws hl h2 => match us, ws, hl, h2 with | [_, _], [], _, _ => rfl
theorem xk_InvalidTasks : XBindOk "InvalidTasks.__init__" s_InvalidTasks_init ["self", "value"] 0 ["value"] := fun _ _ _ _ _ _ us ws hl h2 => match us, ws, hl, h2 with | [_], [_], _, _ => rfl
abbrev N_InvalidTask_init : List Str := ["self", "name"]
theorem sc_InvalidTask_init : FnScope N_InvalidTask_init ["self", "name"] (defScope s_InvalidTask_init) := ⟨rfl, rfl, rfl, by decide +kernel, rfl, by decide +kernel, by decide +kernel⟩
theorem xb_InvalidTask : XBindOk "InvalidTask.__init__" s_InvalidTask_init ["self", "name"] 1 [] := fun _ _ _ _ _ _ us ws hl h2 => match us, ws, hl, h2 with | [_, _], [], _, _ => rfl
theorem xk_InvalidTask : XBindOk "InvalidTask.__init__" s_InvalidTask_init ["self", "name"] 0 ["name"] := fun _ _ _ _ _ _ us ws hl h2 => match us, ws, hl, h2 with | [_], [_], _, _ => rfl
abbrev N_InvalidWork_init : List Str := ["self", "value"]
theorem sc_InvalidWork_init : FnScope N_InvalidWork_init ["self", "value"] (defScope s_InvalidWork_init) := ⟨rfl, rfl, rfl, by decide +kernel, rfl, by decide +kernel, by decide +kernel⟩
theorem xb_InvalidWork : XBindOk "InvalidWork.__init__" s_InvalidWork_init ["self", "value"] 1 [] := fun _ _ _ _ _ _ us ws hl h2 => match us, ws, hl, h2 with | [_, _], [], _, _ => rfl
theorem xk_InvalidWork : XBindOk "InvalidWork.__init__" s_InvalidWork_init ["self", "value"] 0 ["value"] := fun _ _ _ _ _ _ us ws hl h2 => match us, ws, hl, h2 with | [_], [_], _, _ => rfl
abbrev N_InvalidYard_init : List Str := ["self", "value"]
theorem sc_InvalidYard_init : FnScope N_InvalidYard_init ["self", "value"] (defScope s_InvalidYard_init) := ⟨rfl, rfl, rfl, by decide +kernel, rfl, by decide +kernel, by decide +kernel⟩
theorem xb_InvalidYard : XBindOk "InvalidYard.__init__" s_InvalidYard_init ["self", "value"] 1 [] := fun _ _ _ _ _ _ us ws hl h2 => match us, ws, hl, h2 with | [_, _], [], _, _ => rfl
theorem xk_InvalidYard : XBindOk "InvalidYard.__init__" s_InvalidYard_init ["self", "value"] 0 ["value"] := fun _ _ _ _ _ _ us ws hl h2 => match us, ws, hl, h2 with | [_], [_], _, _ => rfl
abbrev N_InvalidAmounts_init : List Str := ["self", "value"]
theorem sc_InvalidAmounts_init : FnScope N_InvalidAmounts_init ["self", "value"] (defScope s_InvalidAmounts_init) := ⟨rfl, rfl, rfl, by decide +kernel, rfl, by decide +kernel, by decide +kernel⟩
theorem xb_InvalidAmounts : XBindOk "InvalidAmounts.__init__" s_InvalidAmounts_init ["self", "value"] 1 [] := fun _ _ _ _ _ _ us ws hl h2 => match us, ws, hl, h2 with | [_, _], [], _, _ => rfl
theorem xk_InvalidAmounts : XBindOk "InvalidAmounts.__init__" s_InvalidAmounts_init ["self", "value"] 0 ["value"] := fun _ _ _ _ _ _ us ws hl h2 => match us, ws, hl, h2 with | [_], [_], _, _ => rfl
abbrev N_WrongSum_init : List Str := ["self", "name"]
theorem sc_WrongSum_init : FnScope N_WrongSum_init ["self", "name"] (defScope s_WrongSum_init) := ⟨rfl, rfl, rfl, by decide +kernel, rfl, by decide +kernel, by decide +kernel⟩
theorem xb_WrongSum : XBindOk "WrongSum.__init__" s_WrongSum_init ["self", "name"] 1 [] := fun _ _ _ _ _ _ us ws hl h2 => match us, ws, hl, h2 with | [_, _], [], _, _ => rfl
theorem xk_WrongSum : XBindOk "WrongSum.__init__" s_WrongSum_init ["self", "name"] 0 ["name"] := fun _ _ _ _ _ _ us ws hl h2 => match us, ws, hl, h2 with | [_], [_], _, _ => rfl
abbrev N_InvalidPlan_init : List Str := ["self", "value"]
theorem sc_InvalidPlan_init : FnScope N_InvalidPlan_init ["self", "value"] (defScope s_InvalidPlan_init) := ⟨rfl, rfl, rfl, by decide +kernel, rfl, by decide +kernel, by decide +kernel⟩
theorem xb_InvalidPlan : XBindOk "InvalidPlan.__init__" s_InvalidPlan_init ["self", "value"] 1 [] := fun _ _ _ _ _ _ us ws hl h2 => match us, ws, hl, h2 with | [_, _], [], _, _ => rfl
theorem xk_InvalidPlan : XBindOk "InvalidPlan.__init__" s_InvalidPlan_init ["self", "value"] 0 ["value"] := fun _ _ _ _ _ _ us ws hl h2 => match us, ws, hl, h2 with | [_], [_], _, _ => rfl
abbrev N_InvalidGift_init : List Str := ["self", "value"]
theorem sc_InvalidGift_init : FnScope N_InvalidGift_init ["self", "value"] (defScope s_InvalidGift_init) := ⟨rfl, rfl, rfl, by decide +kernel, rfl, by decide +kernel, by decide +kernel⟩
theorem xb_InvalidGift : XBindOk "InvalidGift.__init__" s_InvalidGift_init ["self", "value"] 1 [] := fun _ _ _ _ _ _ us ws hl h2 => match us, ws, hl, h2 with | [_, _], [], _, _ => rfl
theorem xk_InvalidGift : XBindOk "InvalidGift.__init__" s_InvalidGift_init ["self", "value"] 0 ["value"] := fun _ _ _ _ _ _ us ws hl h2 => match us, ws, hl, h2 with | [_], [_], _, _ => rfl
abbrev N_InvalidShare_init : List Str := ["self", "value"]
theorem sc_InvalidShare_init : FnScope N_InvalidShare_init ["self", "value"] (defScope s_InvalidShare_init) := ⟨rfl, rfl, rfl, by decide +kernel, rfl, by decide +kernel, by decide +kernel⟩
theorem xb_InvalidShare : XBindOk "InvalidShare.__init__" s_InvalidShare_init ["self", "value"] 1 [] := fun _ _ _ _ _ _ us ws hl h2 => match us, ws, hl, h2 with | [_, _], [], _, _ => rfl
theorem xk_InvalidShare : XBindOk "InvalidShare.__init__" s_InvalidShare_init ["self", "value"] 0 ["value"] := fun _ _ _ _ _ _ us ws hl h2 => match us, ws, hl, h2 with | [_], [_], _, _ => rfl
abbrev N_InvalidLines_init : List Str := ["self", "position"]
theorem sc_InvalidLines_init : FnScope N_InvalidLines_init ["self", "position"] (defScope s_InvalidLines_init) := ⟨rfl, rfl, rfl, by decide +kernel, rfl, by decide +kernel, by decide +kernel⟩
theorem xb_InvalidLines : XBindOk "InvalidLines.__init__" s_InvalidLines_init ["self", "position"] 1 [] := fun _ _ _ _ _ _ us ws hl h2 => match us, ws, hl, h2 with | [_, _], [], _, _ => rfl
theorem xk_InvalidLines : XBindOk "InvalidLines.__init__" s_InvalidLines_init ["self", "position"] 0 ["position"] := fun _ _ _ _ _ _ us ws hl h2 => match us, ws, hl, h2 with | [_], [_], _, _ => rfl
abbrev N_InvalidBounds_init : List Str := ["self", "value"]
theorem sc_InvalidBounds_init : FnScope N_InvalidBounds_init ["self", "value"] (defScope s_InvalidBounds_init) := ⟨rfl, rfl, rfl, by decide +kernel, rfl, by decide +kernel, by decide +kernel⟩
theorem xb_InvalidBounds : XBindOk "InvalidBounds.__init__" s_InvalidBounds_init ["self", "value"] 1 [] := fun _ _ _ _ _ _ us ws hl h2 => match us, ws, hl, h2 with | [_, _], [], _, _ => rfl
theorem xk_InvalidBounds : XBindOk "InvalidBounds.__init__" s_InvalidBounds_init ["self", "value"] 0 ["value"] := fun _ _ _ _ _ _ us ws hl h2 => match us, ws, hl, h2 with | [_], [_], _, _ => rfl
abbrev N_InvalidAssignment_init : List Str := ["self", "value"]
theorem sc_InvalidAssignment_init : FnScope N_InvalidAssignment_init ["self", "value"] (defScope s_InvalidAssignment_init) := ⟨rfl, rfl, rfl, by decide +kernel, rfl, by decide +kernel, by decide +kernel⟩
theorem xb_InvalidAssignment : XBindOk "InvalidAssignment.__init__" s_InvalidAssignment_init ["self", "value"] 1 [] := fun _ _ _ _ _ _ us ws hl h2 => match us, ws, hl, h2 with | [_, _], [], _, _ => rfl
theorem xk_InvalidAssignment : XBindOk "InvalidAssignment.__init__" s_InvalidAssignment_init ["self", "value"] 0 ["value"] := fun _ _ _ _ _ _ us ws hl h2 => match us, ws, hl, h2 with | [_], [_], _, _ => rfl
abbrev N_InvalidText_init : List Str := ["self", "line"]
theorem sc_InvalidText_init : FnScope N_InvalidText_init ["self", "line"] (defScope s_InvalidText_init) := ⟨rfl, rfl, rfl, by decide +kernel, rfl, by decide +kernel, by decide +kernel⟩
theorem xb_InvalidText : XBindOk "InvalidText.__init__" s_InvalidText_init ["self", "line"] 1 [] := fun _ _ _ _ _ _ us ws hl h2 => match us, ws, hl, h2 with | [_, _], [], _, _ => rfl
theorem xk_InvalidText : XBindOk "InvalidText.__init__" s_InvalidText_init ["self", "line"] 0 ["line"] := fun _ _ _ _ _ _ us ws hl h2 => match us, ws, hl, h2 with | [_], [_], _, _ => rfl
abbrev N_InvalidClaim_init : List Str := ["self", "value"]
theorem sc_InvalidClaim_init : FnScope N_InvalidClaim_init ["self", "value"] (defScope s_InvalidClaim_init) := ⟨rfl, rfl, rfl, by decide +kernel, rfl, by decide +kernel, by decide +kernel⟩
theorem xb_InvalidClaim : XBindOk "InvalidClaim.__init__" s_InvalidClaim_init ["self", "value"] 1 [] := fun _ _ _ _ _ _ us ws hl h2 => match us, ws, hl, h2 with | [_, _], [], _, _ => rfl
theorem xk_InvalidClaim : XBindOk "InvalidClaim.__init__" s_InvalidClaim_init ["self", "value"] 0 ["value"] := fun _ _ _ _ _ _ us ws hl h2 => match us, ws, hl, h2 with | [_], [_], _, _ => rfl
abbrev N_InvalidCommand_init : List Str := ["self", "value"]
theorem sc_InvalidCommand_init : FnScope N_InvalidCommand_init ["self", "value"] (defScope s_InvalidCommand_init) := ⟨rfl, rfl, rfl, by decide +kernel, rfl, by decide +kernel, by decide +kernel⟩
theorem xb_InvalidCommand : XBindOk "InvalidCommand.__init__" s_InvalidCommand_init ["self", "value"] 1 [] := fun _ _ _ _ _ _ us ws hl h2 => match us, ws, hl, h2 with | [_, _], [], _, _ => rfl
theorem xk_InvalidCommand : XBindOk "InvalidCommand.__init__" s_InvalidCommand_init ["self", "value"] 0 ["value"] := fun _ _ _ _ _ _ us ws hl h2 => match us, ws, hl, h2 with | [_], [_], _, _ => rfl
abbrev N_UnknownServer_init : List Str := ["self", "value"]
theorem sc_UnknownServer_init : FnScope N_UnknownServer_init ["self", "value"] (defScope s_UnknownServer_init) := ⟨rfl, rfl, rfl, by decide +kernel, rfl, by decide +kernel, by decide +kernel⟩
theorem xb_UnknownServer : XBindOk "UnknownServer.__init__" s_UnknownServer_init ["self", "value"] 1 [] := fun _ _ _ _ _ _ us ws hl h2 => match us, ws, hl, h2 with | [_, _], [], _, _ => rfl
theorem xk_UnknownServer : XBindOk "UnknownServer.__init__" s_UnknownServer_init ["self", "value"] 0 ["value"] := fun _ _ _ _ _ _ us ws hl h2 => match us, ws, hl, h2 with | [_], [_], _, _ => rfl
abbrev N_UnknownTask_init : List Str := ["self", "value"]
theorem sc_UnknownTask_init : FnScope N_UnknownTask_init ["self", "value"] (defScope s_UnknownTask_init) := ⟨rfl, rfl, rfl, by decide +kernel, rfl, by decide +kernel, by decide +kernel⟩
theorem xb_UnknownTask : XBindOk "UnknownTask.__init__" s_UnknownTask_init ["self", "value"] 1 [] := fun _ _ _ _ _ _ us ws hl h2 => match us, ws, hl, h2 with | [_, _], [], _, _ => rfl
theorem xk_UnknownTask : XBindOk "UnknownTask.__init__" s_UnknownTask_init ["self", "value"] 0 ["value"] := fun _ _ _ _ _ _ us ws hl h2 => match us, ws, hl, h2 with | [_], [_], _, _ => rfl
abbrev N_UnknownPlace_init : List Str := ["self", "value"]
theorem sc_UnknownPlace_init : FnScope N_UnknownPlace_init ["self", "value"] (defScope s_UnknownPlace_init) := ⟨rfl, rfl, rfl, by decide +kernel, rfl, by decide +kernel, by decide +kernel⟩
theorem xb_UnknownPlace : XBindOk "UnknownPlace.__init__" s_UnknownPlace_init ["self", "value"] 1 [] := fun _ _ _ _ _ _ us ws hl h2 => match us, ws, hl, h2 with | [_, _], [], _, _ => rfl
theorem xk_UnknownPlace : XBindOk "UnknownPlace.__init__" s_UnknownPlace_init ["self", "value"] 0 ["value"] := fun _ _ _ _ _ _ us ws hl h2 => match us, ws, hl, h2 with | [_], [_], _, _ => rfl
abbrev N_ServerTaken_init : List Str := ["self", "value"]
theorem sc_ServerTaken_init : FnScope N_ServerTaken_init ["self", "value"] (defScope s_ServerTaken_init) := ⟨rfl, rfl, rfl, by decide +kernel, rfl, by decide +kernel, by decide +kernel⟩
theorem xb_ServerTaken : XBindOk "ServerTaken.__init__" s_ServerTaken_init ["self", "value"] 1 [] := fun _ _ _ _ _ _ us ws hl h2 => match us, ws, hl, h2 with | [_, _], [], _, _ => rfl
theorem xk_ServerTaken : XBindOk "ServerTaken.__init__" s_ServerTaken_init ["self", "value"] 0 ["value"] := fun _ _ _ _ _ _ us ws hl h2 => match us, ws, hl, h2 with | [_], [_], _, _ => rfl
abbrev N_TaskTaken_init : List Str := ["self", "value"]
theorem sc_TaskTaken_init : FnScope N_TaskTaken_init ["self", "value"] (defScope s_TaskTaken_init) := ⟨rfl, rfl, rfl, by decide +kernel, rfl, by decide +kernel, by decide +kernel⟩
theorem xb_TaskTaken : XBindOk "TaskTaken.__init__" s_TaskTaken_init ["self", "value"] 1 [] := fun _ _ _ _ _ _ us ws hl h2 => match us, ws, hl, h2 with | [_, _], [], _, _ => rfl
theorem xk_TaskTaken : XBindOk "TaskTaken.__init__" s_TaskTaken_init ["self", "value"] 0 ["value"] := fun _ _ _ _ _ _ us ws hl h2 => match us, ws, hl, h2 with | [_], [_], _, _ => rfl
abbrev N_PlaceTaken_init : List Str := ["self", "value"]
theorem sc_PlaceTaken_init : FnScope N_PlaceTaken_init ["self", "value"] (defScope s_PlaceTaken_init) := ⟨rfl, rfl, rfl, by decide +kernel, rfl, by decide +kernel, by decide +kernel⟩
theorem xb_PlaceTaken : XBindOk "PlaceTaken.__init__" s_PlaceTaken_init ["self", "value"] 1 [] := fun _ _ _ _ _ _ us ws hl h2 => match us, ws, hl, h2 with | [_, _], [], _, _ => rfl
theorem xk_PlaceTaken : XBindOk "PlaceTaken.__init__" s_PlaceTaken_init ["self", "value"] 0 ["value"] := fun _ _ _ _ _ _ us ws hl h2 => match us, ws, hl, h2 with | [_], [_], _, _ => rfl
abbrev N_LastPlace_init : List Str := ["self", "value"]
theorem sc_LastPlace_init : FnScope N_LastPlace_init ["self", "value"] (defScope s_LastPlace_init) := ⟨rfl, rfl, rfl, by decide +kernel, rfl, by decide +kernel, by decide +kernel⟩
theorem xb_LastPlace : XBindOk "LastPlace.__init__" s_LastPlace_init ["self", "value"] 1 [] := fun _ _ _ _ _ _ us ws hl h2 => match us, ws, hl, h2 with | [_, _], [], _, _ => rfl
theorem xk_LastPlace : XBindOk "LastPlace.__init__" s_LastPlace_init ["self", "value"] 0 ["value"] := fun _ _ _ _ _ _ us ws hl h2 => match us, ws, hl, h2 with | [_], [_], _, _ => rfl
abbrev N_OtherServers_init : List Str := ["self", "one", "other"]
theorem sc_OtherServers_init : FnScope N_OtherServers_init ["self", "one", "other"] (defScope s_OtherServers_init) := ⟨rfl, rfl, rfl, by decide +kernel, rfl, by decide +kernel, by decide +kernel⟩
theorem xb_OtherServers : XBindOk "OtherServers.__init__" s_OtherServers_init ["self", "one", "other"] 2 [] := fun _ _ _ _ _ _ us ws hl h2 => match us, ws, hl, h2 with | [_, _, _], [], _, _ => rfl
theorem xk_OtherServers : XBindOk "OtherServers.__init__" s_OtherServers_init ["self", "one", "other"] 0 ["other", "one"] := fun _ _ _ _ _ _ us ws hl h2 => match us, ws, hl, h2 with | [_], [_, _], _, _ => rfl
abbrev N_OtherYard_init : List Str := ["self", "one", "other"]
theorem sc_OtherYard_init : FnScope N_OtherYard_init ["self", "one", "other"] (defScope s_OtherYard_init) := ⟨rfl, rfl, rfl, by decide +kernel, rfl, by decide +kernel, by decide +kernel⟩
theorem xb_OtherYard : XBindOk "OtherYard.__init__" s_OtherYard_init ["self", "one", "other"] 2 [] := fun _ _ _ _ _ _ us ws hl h2 => match us, ws, hl, h2 with | [_, _, _], [], _, _ => rfl
theorem xk_OtherYard : XBindOk "OtherYard.__init__" s_OtherYard_init ["self", "one", "other"] 0 ["other", "one"] := fun _ _ _ _ _ _ us ws hl h2 => match us, ws, hl, h2 with | [_], [_, _], _, _ => rfl
abbrev N_Impossible_init : List Str := ["self", "position"]
theorem sc_Impossible_init : FnScope N_Impossible_init ["self", "position"] (defScope s_Impossible_init) := ⟨rfl, rfl, rfl, by decide +kernel, rfl, by decide +kernel, by decide +kernel⟩
theorem xb_Impossible : XBindOk "Impossible.__init__" s_Impossible_init ["self", "position"] 1 [] := fun _ _ _ _ _ _ us ws hl h2 => match us, ws, hl, h2 with | [_, _], [], _, _ => rfl
theorem xk_Impossible : XBindOk "Impossible.__init__" s_Impossible_init ["self", "position"] 0 ["position"] := fun _ _ _ _ _ _ us ws hl h2 => match us, ws, hl, h2 with | [_], [_], _, _ => rfl
abbrev N_Overfull_init : List Str := ["self", "bar"]
theorem sc_Overfull_init : FnScope N_Overfull_init ["self", "bar"] (defScope s_Overfull_init) := ⟨rfl, rfl, rfl, by decide +kernel, rfl, by decide +kernel, by decide +kernel⟩
theorem xb_Overfull : XBindOk "Overfull.__init__" s_Overfull_init ["self", "bar"] 1 [] := fun _ _ _ _ _ _ us ws hl h2 => match us, ws, hl, h2 with | [_, _], [], _, _ => rfl
theorem xk_Overfull : XBindOk "Overfull.__init__" s_Overfull_init ["self", "bar"] 0 ["bar"] := fun _ _ _ _ _ _ us ws hl h2 => match us, ws, hl, h2 with | [_], [_], _, _ => rfl
abbrev N_OutOfSpan_init : List Str := ["self", "value"]
theorem sc_OutOfSpan_init : FnScope N_OutOfSpan_init ["self", "value"] (defScope s_OutOfSpan_init) := ⟨rfl, rfl, rfl, by decide +kernel, rfl, by decide +kernel, by decide +kernel⟩
theorem xb_OutOfSpan : XBindOk "OutOfSpan.__init__" s_OutOfSpan_init ["self", "value"] 1 [] := fun _ _ _ _ _ _ us ws hl h2 => match us, ws, hl, h2 with | [_, _], [], _, _ => rfl
theorem xk_OutOfSpan : XBindOk "OutOfSpan.__init__" s_OutOfSpan_init ["self", "value"] 0 ["value"] := fun _ _ _ _ _ _ us ws hl h2 => match us, ws, hl, h2 with | [_], [_], _, _ => rfl
abbrev N_NotWhole_init : List Str := ["self", "value"]
theorem sc_NotWhole_init : FnScope N_NotWhole_init ["self", "value"] (defScope s_NotWhole_init) := ⟨rfl, rfl, rfl, by decide +kernel, rfl, by decide +kernel, by decide +kernel⟩
theorem xb_NotWhole : XBindOk "NotWhole.__init__" s_NotWhole_init ["self", "value"] 1 [] := fun _ _ _ _ _ _ us ws hl h2 => match us, ws, hl, h2 with | [_, _], [], _, _ => rfl
theorem xk_NotWhole : XBindOk "NotWhole.__init__" s_NotWhole_init ["self", "value"] 0 ["value"] := fun _ _ _ _ _ _ us ws hl h2 => match us, ws, hl, h2 with | [_], [_], _, _ => rfl
abbrev N_NothingToUndo_init : List Str := ["self"]
theorem sc_NothingToUndo_init : FnScope N_NothingToUndo_init ["self"] (defScope s_NothingToUndo_init) := ⟨rfl, rfl, rfl, by decide +kernel, rfl, by decide +kernel, by decide +kernel⟩
theorem xb_NothingToUndo : XBindOk "NothingToUndo.__init__" s_NothingToUndo_init ["self"] 0 [] := fun _ _ _ _ _ _ us ws hl h2 => match us, ws, hl, h2 with | [_], [], _, _ => rfl
abbrev N_CommandFailed_init : List Str := ["self", "position"]
theorem sc_CommandFailed_init : FnScope N_CommandFailed_init ["self", "position"] (defScope s_CommandFailed_init) := ⟨rfl, rfl, rfl, by decide +kernel, rfl, by decide +kernel, by decide +kernel⟩
theorem xb_CommandFailed : XBindOk "CommandFailed.__init__" s_CommandFailed_init ["self", "position"] 1 [] := fun _ _ _ _ _ _ us ws hl h2 => match us, ws, hl, h2 with | [_, _], [], _, _ => rfl
theorem xk_CommandFailed : XBindOk "CommandFailed.__init__" s_CommandFailed_init ["self", "position"] 0 ["position"] := fun _ _ _ _ _ _ us ws hl h2 => match us, ws, hl, h2 with | [_], [_], _, _ => rfl
abbrev N_DividedByZero_init : List Str := ["self"]
theorem sc_DividedByZero_init : FnScope N_DividedByZero_init ["self"] (defScope s_DividedByZero_init) := ⟨rfl, rfl, rfl, by decide +kernel, rfl, by decide +kernel, by decide +kernel⟩
theorem xb_DividedByZero : XBindOk "DividedByZero.__init__" s_DividedByZero_init ["self"] 0 [] := fun _ _ _ _ _ _ us ws hl h2 => match us, ws, hl, h2 with | [_], [], _, _ => rfl
abbrev N_TooMany_init : List Str := ["self", "what", "limit"]
theorem sc_TooMany_init : FnScope N_TooMany_init ["self", "what", "limit"] (defScope s_TooMany_init) := ⟨rfl, rfl, rfl, by decide +kernel, rfl, by decide +kernel, by decide +kernel⟩
theorem xb_TooMany : XBindOk "TooMany.__init__" s_TooMany_init ["self", "what", "limit"] 2 [] := fun _ _ _ _ _ _ us ws hl h2 => match us, ws, hl, h2 with | [_, _, _], [], _, _ => rfl
theorem xk_TooMany : XBindOk "TooMany.__init__" s_TooMany_init ["self", "what", "limit"] 0 ["limit", "what"] := fun _ _ _ _ _ _ us ws hl h2 => match us, ws, hl, h2 with | [_], [_, _], _, _ => rfl
abbrev N_law_pot : List Str := ["_law_script", "_law_k", "_law_cell"]
theorem sc_law_pot : FnScope N_law_pot ["_law_script", "_law_k"] (defScope s_law_pot) := ⟨rfl, rfl, rfl, by decide +kernel, rfl, by decide +kernel, by decide +kernel⟩
theorem bd_law_pot : BindOk "_law_pot" "_law_pot" s_law_pot ["_law_script", "_law_k"] := fun _ _ _ _ _ _ us hl => match us, hl with | [_, _], _ => rfl
abbrev N_law_draw : List Str := ["_law_pot_here", "_law_size", "_law_digit"]
theorem sc_law_draw : FnScope N_law_draw ["_law_pot_here", "_law_size"] (defScope s_law_draw) := ⟨rfl, rfl, rfl, by decide +kernel, rfl, by decide +kernel, by decide +kernel⟩
theorem bd_law_draw : BindOk "_law_draw" "_law_draw" s_law_draw ["_law_pot_here", "_law_size"] := fun _ _ _ _ _ _ us hl => match us, hl with | [_, _], _ => rfl
abbrev N_law_pick : List Str := ["_law_pot_here", "_law_some"]
theorem sc_law_pick : FnScope N_law_pick ["_law_pot_here", "_law_some"] (defScope s_law_pick) := ⟨rfl, rfl, rfl, by decide +kernel, rfl, by decide +kernel, by decide +kernel⟩
theorem bd_law_pick : BindOk "_law_pick" "_law_pick" s_law_pick ["_law_pot_here", "_law_some"] := fun _ _ _ _ _ _ us hl => match us, hl with | [_, _], _ => rfl
abbrev N_law_thing : List Str := ["_law_pot_here", "_law_great", "_law_signs", "_law_length", "_law_way", "_law_inner", "_law_some", "_law_turn"]
theorem sc_law_thing : FnScope N_law_thing ["_law_pot_here"] (defScope s_law_thing) := ⟨rfl, rfl, rfl, by decide +kernel, rfl, by decide +kernel, by decide +kernel⟩
theorem bd_law_thing : BindOk "_law_thing" "_law_thing" s_law_thing ["_law_pot_here"] := fun _ _ _ _ _ _ us hl => match us, hl with | [_], _ => rfl
abbrev N_law_is_named : List Str := ["_law_some", "_law_kind", "_law_sign"]
theorem sc_law_is_named : FnScope N_law_is_named ["_law_some", "_law_kind"] (defScope s_law_is_named) := ⟨rfl, rfl, rfl, by decide +kernel, rfl, by decide +kernel, by decide +kernel⟩
theorem bd_law_is_named : BindOk "_law_is_named" "_law_is_named" s_law_is_named ["_law_some", "_law_kind"] := fun _ _ _ _ _ _ us hl => match us, hl with | [_, _], _ => rfl
abbrev N_law_kinds_right : List Str := ["_law_some", "_law_kind", "_law_due", "_law_told", "_law_again"]
theorem sc_law_kinds_right : FnScope N_law_kinds_right ["_law_some", "_law_kind"] (defScope s_law_kinds_right) := ⟨rfl, rfl, rfl, by decide +kernel, rfl, by decide +kernel, by decide +kernel⟩
theorem bd_law_kinds_right : BindOk "_law_kinds_right" "_law_kinds_right" s_law_kinds_right ["_law_some", "_law_kind"] := fun _ _ _ _ _ _ us hl => match us, hl with | [_, _], _ => rfl
abbrev N_law_load_errors : List Str := ["_law_some", "_law_found"]
theorem sc_law_load_errors : FnScope N_law_load_errors ["_law_some"] (defScope s_law_load_errors) := ⟨rfl, rfl, rfl, by decide +kernel, rfl, by decide +kernel, by decide +kernel⟩
theorem bd_law_load_errors : BindOk "_law_load_errors" "_law_load_errors" s_law_load_errors ["_law_some"] := fun _ _ _ _ _ _ us hl => match us, hl with | [_], _ => rfl
abbrev N_law_which_load : List Str := ["_law_e", "_law_found"]
theorem sc_law_which_load : FnScope N_law_which_load ["_law_e"] (defScope s_law_which_load) := ⟨rfl, rfl, rfl, by decide +kernel, rfl, by decide +kernel, by decide +kernel⟩
theorem bd_law_which_load : BindOk "_law_which_load" "_law_which_load" s_law_which_load ["_law_e"] := fun _ _ _ _ _ _ us hl => match us, hl with | [_], _ => rfl
abbrev N_law_other_errors : List Str := ["_law_some", "_law_more", "_law_found"]
theorem sc_law_other_errors : FnScope N_law_other_errors ["_law_some", "_law_more"] (defScope s_law_other_errors) := ⟨rfl, rfl, rfl, by decide +kernel, rfl, by decide +kernel, by decide +kernel⟩
theorem bd_law_other_errors : BindOk "_law_other_errors" "_law_other_errors" s_law_other_errors ["_law_some", "_law_more"] := fun _ _ _ _ _ _ us hl => match us, hl with | [_, _], _ => rfl
abbrev N_law_which_other : List Str := ["_law_e", "_law_found"]
theorem sc_law_which_other : FnScope N_law_which_other ["_law_e"] (defScope s_law_which_other) := ⟨rfl, rfl, rfl, by decide +kernel, rfl, by decide +kernel, by decide +kernel⟩
theorem bd_law_which_other : BindOk "_law_which_other" "_law_which_other" s_law_which_other ["_law_e"] := fun _ _ _ _ _ _ us hl => match us, hl with | [_], _ => rfl
abbrev N_law_bases : List Str := ["_law_e", "_law_found"]
theorem sc_law_bases : FnScope N_law_bases ["_law_e"] (defScope s_law_bases) := ⟨rfl, rfl, rfl, by decide +kernel, rfl, by decide +kernel, by decide +kernel⟩
theorem bd_law_bases : BindOk "_law_bases" "_law_bases" s_law_bases ["_law_e"] := fun _ _ _ _ _ _ us hl => match us, hl with | [_], _ => rfl
abbrev N_law_classes_right : List Str := ["_law_some", "_law_more", "_law_made", "_law_place", "_law_e", "_law_base", "_law_turn"]
theorem sc_law_classes_right : FnScope N_law_classes_right ["_law_some", "_law_more"] (defScope s_law_classes_right) := ⟨rfl, rfl, rfl, by decide +kernel, rfl, by decide +kernel, by decide +kernel⟩
theorem bd_law_classes_right : BindOk "_law_classes_right" "_law_classes_right" s_law_classes_right ["_law_some", "_law_more"] := fun _ _ _ _ _ _ us hl => match us, hl with | [_, _], _ => rfl
abbrev N_law_fields_right : List Str := ["_law_some", "_law_more", "_law_load", "_law_rest", "_law_e"]
theorem sc_law_fields_right : FnScope N_law_fields_right ["_law_some", "_law_more"] (defScope s_law_fields_right) := ⟨rfl, rfl, rfl, by decide +kernel, rfl, by decide +kernel, by decide +kernel⟩
theorem bd_law_fields_right : BindOk "_law_fields_right" "_law_fields_right" s_law_fields_right ["_law_some", "_law_more"] := fun _ _ _ _ _ _ us hl => match us, hl with | [_, _], _ => rfl
abbrev N_law_named_right : List Str := ["_law_some", "_law_more", "_law_found", "_law_told", "_law_limited", "_law_pair", "_law_spots", "_law_e"]
theorem sc_law_named_right : FnScope N_law_named_right ["_law_some", "_law_more"] (defScope s_law_named_right) := ⟨rfl, rfl, rfl, by decide +kernel, rfl, by decide +kernel, by decide +kernel⟩
theorem bd_law_named_right : BindOk "_law_named_right" "_law_named_right" s_law_named_right ["_law_some", "_law_more"] := fun _ _ _ _ _ _ us hl => match us, hl with | [_, _], _ => rfl
abbrev N_law_right : List Str := ["_law_pot_here", "_law_turn", "_law_more", "_law_some", "_law_kind"]
theorem sc_law_right : FnScope N_law_right ["_law_pot_here"] (defScope s_law_right) := ⟨rfl, rfl, rfl, by decide +kernel, rfl, by decide +kernel, by decide +kernel⟩
theorem bd_law_right : BindOk "_law_right" "_law_right" s_law_right ["_law_pot_here"] := fun _ _ _ _ _ _ us hl => match us, hl with | [_], _ => rfl
abbrev N_law : List Str := ["_law_script", "_law_k"]
theorem sc_law : FnScope N_law ["_law_script"] (defScope s_law) := ⟨rfl, rfl, rfl, by decide +kernel, rfl, by decide +kernel, by decide +kernel⟩
theorem bd_law : BindOk "law" "law" s_law ["_law_script"] := fun _ _ _ _ _ _ us hl => match us, hl with | [_], _ => rfl
structure Txt (K : PySem.W.Frag) (mg : Str → Option Value) (a : Ad) : Prop where
  d_is_integer : GF K mg "is_integer" s_is_integer
  d_is_count : GF K mg "is_count" s_is_count
  d_is_name : GF K mg "is_name" s_is_name
  e_InvalidNumber : GX K mg "InvalidNumber" a.InvalidNumber "InvalidNumber.__init__" s_InvalidNumber_init
  n_InvalidNumber_value : PySem.W.findIn K (.ref a.InvalidNumber) "value" = some none
  e_InvalidName : GX K mg "InvalidName" a.InvalidName "InvalidName.__init__" s_InvalidName_init
  n_InvalidName_value : PySem.W.findIn K (.ref a.InvalidName) "value" = some none
  e_InvalidMoves : GX K mg "InvalidMoves" a.InvalidMoves "InvalidMoves.__init__" s_InvalidMoves_init
  n_InvalidMoves_position : PySem.W.findIn K (.ref a.InvalidMoves) "position" = some none
  e_InvalidServers : GX K mg "InvalidServers" a.InvalidServers "InvalidServers.__init__" s_InvalidServers_init
  n_InvalidServers_value : PySem.W.findIn K (.ref a.InvalidServers) "value" = some none
  e_InvalidSpeed : GX K mg "InvalidSpeed" a.InvalidSpeed "InvalidSpeed.__init__" s_InvalidSpeed_init
  n_InvalidSpeed_server : PySem.W.findIn K (.ref a.InvalidSpeed) "server" = some none
  e_InvalidTasks : GX K mg "InvalidTasks" a.InvalidTasks "InvalidTasks.__init__" s_InvalidTasks_init
  n_InvalidTasks_value : PySem.W.findIn K (.ref a.InvalidTasks) "value" = some none
  e_InvalidTask : GX K mg "InvalidTask" a.InvalidTask "InvalidTask.__init__" s_InvalidTask_init
  n_InvalidTask_name : PySem.W.findIn K (.ref a.InvalidTask) "name" = some none
  e_InvalidWork : GX K mg "InvalidWork" a.InvalidWork "InvalidWork.__init__" s_InvalidWork_init
  n_InvalidWork_value : PySem.W.findIn K (.ref a.InvalidWork) "value" = some none
  e_InvalidYard : GX K mg "InvalidYard" a.InvalidYard "InvalidYard.__init__" s_InvalidYard_init
  n_InvalidYard_value : PySem.W.findIn K (.ref a.InvalidYard) "value" = some none
  e_InvalidAmounts : GX K mg "InvalidAmounts" a.InvalidAmounts "InvalidAmounts.__init__" s_InvalidAmounts_init
  n_InvalidAmounts_value : PySem.W.findIn K (.ref a.InvalidAmounts) "value" = some none
  e_WrongSum : GX K mg "WrongSum" a.WrongSum "WrongSum.__init__" s_WrongSum_init
  n_WrongSum_name : PySem.W.findIn K (.ref a.WrongSum) "name" = some none
  e_InvalidPlan : GX K mg "InvalidPlan" a.InvalidPlan "InvalidPlan.__init__" s_InvalidPlan_init
  n_InvalidPlan_value : PySem.W.findIn K (.ref a.InvalidPlan) "value" = some none
  e_InvalidGift : GX K mg "InvalidGift" a.InvalidGift "InvalidGift.__init__" s_InvalidGift_init
  n_InvalidGift_value : PySem.W.findIn K (.ref a.InvalidGift) "value" = some none
  e_InvalidShare : GX K mg "InvalidShare" a.InvalidShare "InvalidShare.__init__" s_InvalidShare_init
  n_InvalidShare_value : PySem.W.findIn K (.ref a.InvalidShare) "value" = some none
  e_InvalidLines : GX K mg "InvalidLines" a.InvalidLines "InvalidLines.__init__" s_InvalidLines_init
  n_InvalidLines_position : PySem.W.findIn K (.ref a.InvalidLines) "position" = some none
  e_InvalidBounds : GX K mg "InvalidBounds" a.InvalidBounds "InvalidBounds.__init__" s_InvalidBounds_init
  n_InvalidBounds_value : PySem.W.findIn K (.ref a.InvalidBounds) "value" = some none
  e_InvalidAssignment : GX K mg "InvalidAssignment" a.InvalidAssignment "InvalidAssignment.__init__" s_InvalidAssignment_init
  n_InvalidAssignment_value : PySem.W.findIn K (.ref a.InvalidAssignment) "value" = some none
  e_InvalidText : GX K mg "InvalidText" a.InvalidText "InvalidText.__init__" s_InvalidText_init
  n_InvalidText_line : PySem.W.findIn K (.ref a.InvalidText) "line" = some none
  e_InvalidClaim : GX K mg "InvalidClaim" a.InvalidClaim "InvalidClaim.__init__" s_InvalidClaim_init
  n_InvalidClaim_value : PySem.W.findIn K (.ref a.InvalidClaim) "value" = some none
  e_InvalidCommand : GX K mg "InvalidCommand" a.InvalidCommand "InvalidCommand.__init__" s_InvalidCommand_init
  n_InvalidCommand_value : PySem.W.findIn K (.ref a.InvalidCommand) "value" = some none
  e_UnknownServer : GX K mg "UnknownServer" a.UnknownServer "UnknownServer.__init__" s_UnknownServer_init
  n_UnknownServer_value : PySem.W.findIn K (.ref a.UnknownServer) "value" = some none
  e_UnknownTask : GX K mg "UnknownTask" a.UnknownTask "UnknownTask.__init__" s_UnknownTask_init
  n_UnknownTask_value : PySem.W.findIn K (.ref a.UnknownTask) "value" = some none
  e_UnknownPlace : GX K mg "UnknownPlace" a.UnknownPlace "UnknownPlace.__init__" s_UnknownPlace_init
  n_UnknownPlace_value : PySem.W.findIn K (.ref a.UnknownPlace) "value" = some none
  e_ServerTaken : GX K mg "ServerTaken" a.ServerTaken "ServerTaken.__init__" s_ServerTaken_init
  n_ServerTaken_value : PySem.W.findIn K (.ref a.ServerTaken) "value" = some none
  e_TaskTaken : GX K mg "TaskTaken" a.TaskTaken "TaskTaken.__init__" s_TaskTaken_init
  n_TaskTaken_value : PySem.W.findIn K (.ref a.TaskTaken) "value" = some none
  e_PlaceTaken : GX K mg "PlaceTaken" a.PlaceTaken "PlaceTaken.__init__" s_PlaceTaken_init
  n_PlaceTaken_value : PySem.W.findIn K (.ref a.PlaceTaken) "value" = some none
  e_LastPlace : GX K mg "LastPlace" a.LastPlace "LastPlace.__init__" s_LastPlace_init
  n_LastPlace_value : PySem.W.findIn K (.ref a.LastPlace) "value" = some none
  e_OtherServers : GX K mg "OtherServers" a.OtherServers "OtherServers.__init__" s_OtherServers_init
  n_OtherServers_one : PySem.W.findIn K (.ref a.OtherServers) "one" = some none
  n_OtherServers_other : PySem.W.findIn K (.ref a.OtherServers) "other" = some none
  e_OtherYard : GX K mg "OtherYard" a.OtherYard "OtherYard.__init__" s_OtherYard_init
  n_OtherYard_one : PySem.W.findIn K (.ref a.OtherYard) "one" = some none
  n_OtherYard_other : PySem.W.findIn K (.ref a.OtherYard) "other" = some none
  e_Impossible : GX K mg "Impossible" a.Impossible "Impossible.__init__" s_Impossible_init
  n_Impossible_position : PySem.W.findIn K (.ref a.Impossible) "position" = some none
  e_Overfull : GX K mg "Overfull" a.Overfull "Overfull.__init__" s_Overfull_init
  n_Overfull_bar : PySem.W.findIn K (.ref a.Overfull) "bar" = some none
  e_OutOfSpan : GX K mg "OutOfSpan" a.OutOfSpan "OutOfSpan.__init__" s_OutOfSpan_init
  n_OutOfSpan_value : PySem.W.findIn K (.ref a.OutOfSpan) "value" = some none
  e_NotWhole : GX K mg "NotWhole" a.NotWhole "NotWhole.__init__" s_NotWhole_init
  n_NotWhole_value : PySem.W.findIn K (.ref a.NotWhole) "value" = some none
  e_NothingToUndo : GX K mg "NothingToUndo" a.NothingToUndo "NothingToUndo.__init__" s_NothingToUndo_init
  e_CommandFailed : GX K mg "CommandFailed" a.CommandFailed "CommandFailed.__init__" s_CommandFailed_init
  n_CommandFailed_position : PySem.W.findIn K (.ref a.CommandFailed) "position" = some none
  e_DividedByZero : GX K mg "DividedByZero" a.DividedByZero "DividedByZero.__init__" s_DividedByZero_init
  e_TooMany : GX K mg "TooMany" a.TooMany "TooMany.__init__" s_TooMany_init
  n_TooMany_what : PySem.W.findIn K (.ref a.TooMany) "what" = some none
  n_TooMany_limit : PySem.W.findIn K (.ref a.TooMany) "limit" = some none
  d_law_pot : GF K mg "_law_pot" s_law_pot
  d_law_draw : GF K mg "_law_draw" s_law_draw
  d_law_pick : GF K mg "_law_pick" s_law_pick
  d_law_thing : GF K mg "_law_thing" s_law_thing
  d_law_is_named : GF K mg "_law_is_named" s_law_is_named
  d_law_kinds_right : GF K mg "_law_kinds_right" s_law_kinds_right
  d_law_load_errors : GF K mg "_law_load_errors" s_law_load_errors
  d_law_which_load : GF K mg "_law_which_load" s_law_which_load
  d_law_other_errors : GF K mg "_law_other_errors" s_law_other_errors
  d_law_which_other : GF K mg "_law_which_other" s_law_which_other
  d_law_bases : GF K mg "_law_bases" s_law_bases
  d_law_classes_right : GF K mg "_law_classes_right" s_law_classes_right
  d_law_fields_right : GF K mg "_law_fields_right" s_law_fields_right
  d_law_named_right : GF K mg "_law_named_right" s_law_named_right
  d_law_right : GF K mg "_law_right" s_law_right
  d_law : GF K mg "law" s_law
  g_InvalidNumber : mg "InvalidNumber" = some (.ref a.InvalidNumber)
  m_InvalidNumber : MroIs K a.InvalidNumber [.ref a.InvalidNumber, .ref a.LoadError, .type "ValueError", .type "Exception", .type "BaseException", .type "object"]
  t_InvalidNumber : PySem.W.typeIn K (.ref a.InvalidNumber) = some (.type "type")
  g_InvalidName : mg "InvalidName" = some (.ref a.InvalidName)
  m_InvalidName : MroIs K a.InvalidName [.ref a.InvalidName, .ref a.LoadError, .type "ValueError", .type "Exception", .type "BaseException", .type "object"]
  t_InvalidName : PySem.W.typeIn K (.ref a.InvalidName) = some (.type "type")
  g_InvalidMoves : mg "InvalidMoves" = some (.ref a.InvalidMoves)
  m_InvalidMoves : MroIs K a.InvalidMoves [.ref a.InvalidMoves, .ref a.LoadError, .type "ValueError", .type "Exception", .type "BaseException", .type "object"]
  t_InvalidMoves : PySem.W.typeIn K (.ref a.InvalidMoves) = some (.type "type")
  g_InvalidServers : mg "InvalidServers" = some (.ref a.InvalidServers)
  m_InvalidServers : MroIs K a.InvalidServers [.ref a.InvalidServers, .ref a.LoadError, .type "ValueError", .type "Exception", .type "BaseException", .type "object"]
  t_InvalidServers : PySem.W.typeIn K (.ref a.InvalidServers) = some (.type "type")
  g_InvalidSpeed : mg "InvalidSpeed" = some (.ref a.InvalidSpeed)
  m_InvalidSpeed : MroIs K a.InvalidSpeed [.ref a.InvalidSpeed, .ref a.LoadError, .type "ValueError", .type "Exception", .type "BaseException", .type "object"]
  t_InvalidSpeed : PySem.W.typeIn K (.ref a.InvalidSpeed) = some (.type "type")
  g_InvalidTasks : mg "InvalidTasks" = some (.ref a.InvalidTasks)
  m_InvalidTasks : MroIs K a.InvalidTasks [.ref a.InvalidTasks, .ref a.LoadError, .type "ValueError", .type "Exception", .type "BaseException", .type "object"]
  t_InvalidTasks : PySem.W.typeIn K (.ref a.InvalidTasks) = some (.type "type")
  g_InvalidTask : mg "InvalidTask" = some (.ref a.InvalidTask)
  m_InvalidTask : MroIs K a.InvalidTask [.ref a.InvalidTask, .ref a.LoadError, .type "ValueError", .type "Exception", .type "BaseException", .type "object"]
  t_InvalidTask : PySem.W.typeIn K (.ref a.InvalidTask) = some (.type "type")
  g_InvalidWork : mg "InvalidWork" = some (.ref a.InvalidWork)
  m_InvalidWork : MroIs K a.InvalidWork [.ref a.InvalidWork, .ref a.LoadError, .type "ValueError", .type "Exception", .type "BaseException", .type "object"]
  t_InvalidWork : PySem.W.typeIn K (.ref a.InvalidWork) = some (.type "type")
  g_InvalidYard : mg "InvalidYard" = some (.ref a.InvalidYard)
  m_InvalidYard : MroIs K a.InvalidYard [.ref a.InvalidYard, .ref a.LoadError, .type "ValueError", .type "Exception", .type "BaseException", .type "object"]
  t_InvalidYard : PySem.W.typeIn K (.ref a.InvalidYard) = some (.type "type")
  g_InvalidAmounts : mg "InvalidAmounts" = some (.ref a.InvalidAmounts)
  m_InvalidAmounts : MroIs K a.InvalidAmounts [.ref a.InvalidAmounts, .ref a.LoadError, .type "ValueError", .type "Exception", .type "BaseException", .type "object"]
  t_InvalidAmounts : PySem.W.typeIn K (.ref a.InvalidAmounts) = some (.type "type")
  g_WrongSum : mg "WrongSum" = some (.ref a.WrongSum)
  m_WrongSum : MroIs K a.WrongSum [.ref a.WrongSum, .ref a.LoadError, .type "ValueError", .type "Exception", .type "BaseException", .type "object"]
  t_WrongSum : PySem.W.typeIn K (.ref a.WrongSum) = some (.type "type")
  g_InvalidPlan : mg "InvalidPlan" = some (.ref a.InvalidPlan)
  m_InvalidPlan : MroIs K a.InvalidPlan [.ref a.InvalidPlan, .ref a.LoadError, .type "ValueError", .type "Exception", .type "BaseException", .type "object"]
  t_InvalidPlan : PySem.W.typeIn K (.ref a.InvalidPlan) = some (.type "type")
  g_InvalidGift : mg "InvalidGift" = some (.ref a.InvalidGift)
  m_InvalidGift : MroIs K a.InvalidGift [.ref a.InvalidGift, .ref a.LoadError, .type "ValueError", .type "Exception", .type "BaseException", .type "object"]
  t_InvalidGift : PySem.W.typeIn K (.ref a.InvalidGift) = some (.type "type")
  g_InvalidShare : mg "InvalidShare" = some (.ref a.InvalidShare)
  m_InvalidShare : MroIs K a.InvalidShare [.ref a.InvalidShare, .ref a.LoadError, .type "ValueError", .type "Exception", .type "BaseException", .type "object"]
  t_InvalidShare : PySem.W.typeIn K (.ref a.InvalidShare) = some (.type "type")
  g_InvalidLines : mg "InvalidLines" = some (.ref a.InvalidLines)
  m_InvalidLines : MroIs K a.InvalidLines [.ref a.InvalidLines, .ref a.LoadError, .type "ValueError", .type "Exception", .type "BaseException", .type "object"]
  t_InvalidLines : PySem.W.typeIn K (.ref a.InvalidLines) = some (.type "type")
  g_InvalidBounds : mg "InvalidBounds" = some (.ref a.InvalidBounds)
  m_InvalidBounds : MroIs K a.InvalidBounds [.ref a.InvalidBounds, .ref a.LoadError, .type "ValueError", .type "Exception", .type "BaseException", .type "object"]
  t_InvalidBounds : PySem.W.typeIn K (.ref a.InvalidBounds) = some (.type "type")
  g_InvalidAssignment : mg "InvalidAssignment" = some (.ref a.InvalidAssignment)
  m_InvalidAssignment : MroIs K a.InvalidAssignment [.ref a.InvalidAssignment, .ref a.LoadError, .type "ValueError", .type "Exception", .type "BaseException", .type "object"]
  t_InvalidAssignment : PySem.W.typeIn K (.ref a.InvalidAssignment) = some (.type "type")
  g_InvalidText : mg "InvalidText" = some (.ref a.InvalidText)
  m_InvalidText : MroIs K a.InvalidText [.ref a.InvalidText, .ref a.LoadError, .type "ValueError", .type "Exception", .type "BaseException", .type "object"]
  t_InvalidText : PySem.W.typeIn K (.ref a.InvalidText) = some (.type "type")
  g_InvalidClaim : mg "InvalidClaim" = some (.ref a.InvalidClaim)
  m_InvalidClaim : MroIs K a.InvalidClaim [.ref a.InvalidClaim, .ref a.LoadError, .type "ValueError", .type "Exception", .type "BaseException", .type "object"]
  t_InvalidClaim : PySem.W.typeIn K (.ref a.InvalidClaim) = some (.type "type")
  g_InvalidCommand : mg "InvalidCommand" = some (.ref a.InvalidCommand)
  m_InvalidCommand : MroIs K a.InvalidCommand [.ref a.InvalidCommand, .ref a.LoadError, .type "ValueError", .type "Exception", .type "BaseException", .type "object"]
  t_InvalidCommand : PySem.W.typeIn K (.ref a.InvalidCommand) = some (.type "type")
  g_UnknownServer : mg "UnknownServer" = some (.ref a.UnknownServer)
  m_UnknownServer : MroIs K a.UnknownServer [.ref a.UnknownServer, .ref a.MissingError, .type "LookupError", .type "Exception", .type "BaseException", .type "object"]
  t_UnknownServer : PySem.W.typeIn K (.ref a.UnknownServer) = some (.type "type")
  g_UnknownTask : mg "UnknownTask" = some (.ref a.UnknownTask)
  m_UnknownTask : MroIs K a.UnknownTask [.ref a.UnknownTask, .ref a.MissingError, .type "LookupError", .type "Exception", .type "BaseException", .type "object"]
  t_UnknownTask : PySem.W.typeIn K (.ref a.UnknownTask) = some (.type "type")
  g_UnknownPlace : mg "UnknownPlace" = some (.ref a.UnknownPlace)
  m_UnknownPlace : MroIs K a.UnknownPlace [.ref a.UnknownPlace, .ref a.MissingError, .type "LookupError", .type "Exception", .type "BaseException", .type "object"]
  t_UnknownPlace : PySem.W.typeIn K (.ref a.UnknownPlace) = some (.type "type")
  g_ServerTaken : mg "ServerTaken" = some (.ref a.ServerTaken)
  m_ServerTaken : MroIs K a.ServerTaken [.ref a.ServerTaken, .ref a.StateError, .type "RuntimeError", .type "Exception", .type "BaseException", .type "object"]
  t_ServerTaken : PySem.W.typeIn K (.ref a.ServerTaken) = some (.type "type")
  g_TaskTaken : mg "TaskTaken" = some (.ref a.TaskTaken)
  m_TaskTaken : MroIs K a.TaskTaken [.ref a.TaskTaken, .ref a.StateError, .type "RuntimeError", .type "Exception", .type "BaseException", .type "object"]
  t_TaskTaken : PySem.W.typeIn K (.ref a.TaskTaken) = some (.type "type")
  g_PlaceTaken : mg "PlaceTaken" = some (.ref a.PlaceTaken)
  m_PlaceTaken : MroIs K a.PlaceTaken [.ref a.PlaceTaken, .ref a.StateError, .type "RuntimeError", .type "Exception", .type "BaseException", .type "object"]
  t_PlaceTaken : PySem.W.typeIn K (.ref a.PlaceTaken) = some (.type "type")
  g_LastPlace : mg "LastPlace" = some (.ref a.LastPlace)
  m_LastPlace : MroIs K a.LastPlace [.ref a.LastPlace, .ref a.StateError, .type "RuntimeError", .type "Exception", .type "BaseException", .type "object"]
  t_LastPlace : PySem.W.typeIn K (.ref a.LastPlace) = some (.type "type")
  g_OtherServers : mg "OtherServers" = some (.ref a.OtherServers)
  m_OtherServers : MroIs K a.OtherServers [.ref a.OtherServers, .ref a.StateError, .type "RuntimeError", .type "Exception", .type "BaseException", .type "object"]
  t_OtherServers : PySem.W.typeIn K (.ref a.OtherServers) = some (.type "type")
  g_OtherYard : mg "OtherYard" = some (.ref a.OtherYard)
  m_OtherYard : MroIs K a.OtherYard [.ref a.OtherYard, .ref a.StateError, .type "RuntimeError", .type "Exception", .type "BaseException", .type "object"]
  t_OtherYard : PySem.W.typeIn K (.ref a.OtherYard) = some (.type "type")
  g_Impossible : mg "Impossible" = some (.ref a.Impossible)
  m_Impossible : MroIs K a.Impossible [.ref a.Impossible, .ref a.StateError, .type "RuntimeError", .type "Exception", .type "BaseException", .type "object"]
  t_Impossible : PySem.W.typeIn K (.ref a.Impossible) = some (.type "type")
  g_Overfull : mg "Overfull" = some (.ref a.Overfull)
  m_Overfull : MroIs K a.Overfull [.ref a.Overfull, .ref a.StateError, .type "RuntimeError", .type "Exception", .type "BaseException", .type "object"]
  t_Overfull : PySem.W.typeIn K (.ref a.Overfull) = some (.type "type")
  g_OutOfSpan : mg "OutOfSpan" = some (.ref a.OutOfSpan)
  m_OutOfSpan : MroIs K a.OutOfSpan [.ref a.OutOfSpan, .ref a.StateError, .type "RuntimeError", .type "Exception", .type "BaseException", .type "object"]
  t_OutOfSpan : PySem.W.typeIn K (.ref a.OutOfSpan) = some (.type "type")
  g_NotWhole : mg "NotWhole" = some (.ref a.NotWhole)
  m_NotWhole : MroIs K a.NotWhole [.ref a.NotWhole, .ref a.StateError, .type "RuntimeError", .type "Exception", .type "BaseException", .type "object"]
  t_NotWhole : PySem.W.typeIn K (.ref a.NotWhole) = some (.type "type")
  g_NothingToUndo : mg "NothingToUndo" = some (.ref a.NothingToUndo)
  m_NothingToUndo : MroIs K a.NothingToUndo [.ref a.NothingToUndo, .ref a.StateError, .type "RuntimeError", .type "Exception", .type "BaseException", .type "object"]
  t_NothingToUndo : PySem.W.typeIn K (.ref a.NothingToUndo) = some (.type "type")
  g_CommandFailed : mg "CommandFailed" = some (.ref a.CommandFailed)
  m_CommandFailed : MroIs K a.CommandFailed [.ref a.CommandFailed, .ref a.StateError, .type "RuntimeError", .type "Exception", .type "BaseException", .type "object"]
  t_CommandFailed : PySem.W.typeIn K (.ref a.CommandFailed) = some (.type "type")
  g_DividedByZero : mg "DividedByZero" = some (.ref a.DividedByZero)
  m_DividedByZero : MroIs K a.DividedByZero [.ref a.DividedByZero, .ref a.LimitError, .type "ArithmeticError", .type "Exception", .type "BaseException", .type "object"]
  t_DividedByZero : PySem.W.typeIn K (.ref a.DividedByZero) = some (.type "type")
  g_TooMany : mg "TooMany" = some (.ref a.TooMany)
  m_TooMany : MroIs K a.TooMany [.ref a.TooMany, .ref a.LimitError, .type "ArithmeticError", .type "Exception", .type "BaseException", .type "object"]
  t_TooMany : PySem.W.typeIn K (.ref a.TooMany) = some (.type "type")
  g_LoadError : mg "LoadError" = some (.ref a.LoadError)
  m_LoadError : MroIs K a.LoadError [.ref a.LoadError, .type "ValueError", .type "Exception", .type "BaseException", .type "object"]
  t_LoadError : PySem.W.typeIn K (.ref a.LoadError) = some (.type "type")
  g_MissingError : mg "MissingError" = some (.ref a.MissingError)
  m_MissingError : MroIs K a.MissingError [.ref a.MissingError, .type "LookupError", .type "Exception", .type "BaseException", .type "object"]
  t_MissingError : PySem.W.typeIn K (.ref a.MissingError) = some (.type "type")
  g_StateError : mg "StateError" = some (.ref a.StateError)
  m_StateError : MroIs K a.StateError [.ref a.StateError, .type "RuntimeError", .type "Exception", .type "BaseException", .type "object"]
  t_StateError : PySem.W.typeIn K (.ref a.StateError) = some (.type "type")
  g_LimitError : mg "LimitError" = some (.ref a.LimitError)
  m_LimitError : MroIs K a.LimitError [.ref a.LimitError, .type "ArithmeticError", .type "Exception", .type "BaseException", .type "object"]
  t_LimitError : PySem.W.typeIn K (.ref a.LimitError) = some (.type "type")
  nd : [a.InvalidNumber, a.InvalidName, a.InvalidServers, a.InvalidTasks, a.InvalidWork, a.InvalidYard, a.InvalidAmounts, a.InvalidPlan, a.InvalidGift, a.InvalidShare, a.InvalidBounds, a.InvalidAssignment, a.InvalidClaim, a.InvalidCommand, a.InvalidMoves, a.InvalidLines, a.InvalidSpeed, a.InvalidTask, a.WrongSum, a.InvalidText, a.UnknownServer, a.UnknownTask, a.UnknownPlace, a.ServerTaken, a.TaskTaken, a.PlaceTaken, a.LastPlace, a.OutOfSpan, a.NotWhole, a.OtherServers, a.OtherYard, a.Impossible, a.CommandFailed, a.Overfull, a.NothingToUndo, a.DividedByZero, a.TooMany, a.LoadError, a.MissingError, a.StateError, a.LimitError].Nodup
  b_abs : mg "abs" = none
  b_len : mg "len" = none
  b_divmod : mg "divmod" = none
  b_max : mg "max" = none
  b_min : mg "min" = none
  b_all : mg "all" = none
  b_int : mg "int" = none
  b_str : mg "str" = none
  b_bool : mg "bool" = none
  b_isinstance : mg "isinstance" = none
  b_range : mg "range" = none
  b_repr : mg "repr" = none
  b_tuple : mg "tuple" = none
  b_enumerate : mg "enumerate" = none
  b_ValueError : mg "ValueError" = none
  b_LookupError : mg "LookupError" = none
  b_RuntimeError : mg "RuntimeError" = none
  b_ArithmeticError : mg "ArithmeticError" = none
  b_TypeError : mg "TypeError" = none
end Lw

namespace Lw
open PySem PySem.Spec PyProof.Rows L2 Ly
local macro_rules | `(tactic| walk_at "rd") => `(tactic| first
  | ((with_reducible refine' i_var ?hv ?_); (case hv => exact rfl))
  | with_reducible refine i_c ?_
  | with_reducible refine i_op ?_
  | with_reducible refine i_cons ?_
  | with_reducible refine i_nil ?_
  | with_reducible refine i_cb ?_
  | with_reducible refine i_call ?_
  | with_reducible refine i_I0 ?_
  | with_reducible refine i_add_i ?_
  | with_reducible refine i_sub_i ?_
  | with_reducible refine i_md_i (by first | decide | assumption) ?_
  | ((with_reducible refine' i_md_i ?c ?_); rotate_left)
  | ((with_reducible refine' i_mul_i ?c ?_); rotate_left)
  | with_reducible refine i_fd_i (by decide) ?_
  | ((with_reducible refine' i_fd_i ?c ?_); rotate_left)
  | with_reducible refine i_int ?_
  | with_reducible refine i_abs ?_
  | with_reducible refine i_max2 ?_
  | with_reducible refine i_min2 ?_
  | with_reducible refine i_gcd ?_
  | with_reducible refine i_seq ?_
  | with_reducible refine i_if ?_
  | with_reducible refine i_asg ?_
  | with_reducible refine i_ret ?_
  | with_reducible refine i_drop ?_
  | with_reducible refine i_next ?_
  | with_reducible refine i_un ?_
  | with_reducible refine i_U ?_
  | ((with_reducible refine i_gname ?_); dsimp only [List.set])
  | with_reducible refine i_test ?_
  | with_reducible refine i_not ?_
  | with_reducible refine i_or ?_
  | with_reducible refine i_and ?_
  | with_reducible refine i_tb ?_
  | with_reducible refine i_andV ?_
  | with_reducible refine i_orV ?_
  | with_reducible refine i_notV ?_
  | with_reducible refine i_ifx ?_
  | with_reducible refine i_ext ?_
  | with_reducible refine i_exf ?_
  | with_reducible refine i_exn ?_
  | with_reducible refine i_itt ?_
  | with_reducible refine i_itf ?_
  | with_reducible refine i_gsub ?_
  | with_reducible refine i_nt ?_
  | with_reducible refine i_tup ?_
  | with_reducible refine i_lst ?_
  | with_reducible refine i_nf ?_
  | with_reducible refine i_isint ?_
  | ((with_reducible refine' i_top ?r ?_); (case r => walk_at "hp"))
  | ((with_reducible refine' i_bot ?r ?_); (case r => walk_at "hp"))
  | with_reducible refine i_fld ?_
  | with_reducible refine i_sfld ?_
  | with_reducible refine i_pp ?_
  | with_reducible refine i_meth ?_
  | with_reducible refine i_smeth ?_
  | with_reducible refine i_make ?_
  | with_reducible refine i_sl ?_
  | with_reducible refine i_noPart ?_
  | with_reducible refine i_part ?_
  | with_reducible refine i_smethK ?_
  | with_reducible refine i_sk1 ?_
  | with_reducible refine i_makeK ?_
  | with_reducible refine i_methK ?_
  | with_reducible refine i_mk11 ?_
  | ((with_reducible refine' i_rmk ?r ?h1 ?h2 ?_); (case r => walk_at "hp"); (case h1 => decide +kernel); (case h2 => decide +kernel))
  | with_reducible refine i_tpar ?_
  | ((with_reducible refine i_rpar ?_); dsimp only [List.set])
  | with_reducible refine i_eq_s rfl ?_
  | with_reducible refine i_ne_s rfl ?_
  | ((with_reducible refine' i_rtop ?r ?c ?n ?_); (case r => walk_at "hp"); (case c => assumption); (case n => assumption))
  | ((with_reducible refine' i_rbot ?r ?c ?n ?_); (case r => walk_at "hp"); (case c => assumption); (case n => assumption))
  | ((with_reducible refine' i_rpp ?r ?_); (case r => walk_at "hp"))
  | ((with_reducible refine' i_rmeth ?r ?h1 ?h2 ?_); (case r => walk_at "hp"); (case h1 => decide +kernel); (case h2 => decide +kernel))
  | ((with_reducible refine' i_ix_l ?hp ?ha ?_); (case hp => walk_at "hp"); (case ha => exact rfl))
  | ((with_reducible refine' i_len_l ?hp ?_); (case hp => walk_at "hp"))
  | ((with_reducible refine' i_ix_f0 ?hp ?_); (case hp => walk_at "hp"))
  | ((with_reducible refine' i_ix_f1 ?hp ?_); (case hp => walk_at "hp"))
  | ((with_reducible refine' i_ix_t ?hp ?ha ?_); (case hp => walk_at "hp"); (case ha => exact rfl)))
local macro_rules | `(tactic| walk_at "hp") => `(tactic| first
  | assumption
  | exact upd_same
  | exact SqL.of (by assumption)
  | (refine' Dr.tup (by assumption) ?hq; (case hq => walk_at "hp"))
  | (refine' FrL.same (by assumption) ?hq; (case hq => walk_at "hp"))
  | (refine' FracAt.same (by assumption) ?hq; (case hq => walk_at "hp"))
  | (refine' FracAt.nl (by assumption) ?hq; (case hq => walk_at "hp"))
  | (refine' RatAt.nl (by assumption) ?hq; (case hq => walk_at "hp"))
  | (refine' Num.nl (by assumption) ?hq; (case hq => walk_at "hp"))
  | (refine' FracAt.pk (by assumption) ?hq; (case hq => walk_at "hp"))
  | (refine' RatAt.pk (by assumption) ?hq; (case hq => walk_at "hp"))
  | (refine' Num.pk (by assumption) ?hq; (case hq => walk_at "hp"))
  | (refine' Dr.keep (by assumption) _ _ (by assumption) ?hq; (case hq => walk_at "hp"))
  | (refine' (show Same _ _ by assumption) _ _ ?hq; (case hq => walk_at "hp"))
  | (refine' RatAt.same (by assumption) ?hq; (case hq => walk_at "hp"))
  | (refine' Num.same (by assumption) ?hq; (case hq => walk_at "hp")))
local macro_rules | `(tactic| walk_at "sm") => `(tactic| first
  | assumption
  | exact Same.refl _
  | (refine' Same.kl (by assumption) (by assumption) ?aa; (case aa => walk_at "sm"))
  | (refine' Same.trans ?aa (by assumption); (case aa => walk_at "sm")))
local macro_rules | `(tactic| walk_at "dr") => `(tactic| first
  | assumption
  | (refine' Dr.same ?aa (by assumption); (case aa => walk_at "dr"))
  | (refine' Dr.trans ?aa (by assumption); (case aa => walk_at "dr")))

local macro_rules | `(tactic| walk_at "rd") => `(tactic| with_reducible refine i_xst ?_)
variable {W : Wd} {a : Ad}
theorem mx_InvalidNumber (T : Txt W.K W.mg a) : XMak W 1 "InvalidNumber" a.InvalidNumber 1 [] (spX1 a.InvalidNumber "value") := by
  refine xmak_of T.e_InvalidNumber sc_InvalidNumber_init xb_InvalidNumber (fun vs H Q E ⟨x, y, h, _⟩ => by rw [h]; rfl) fun f cdv A outer s H vs Q E hr h => ?_
  obtain ⟨x, y, rfl, hx, q⟩ := h
  refine ⟨_, (pss_one (ps_xst (pv 0) (pv 1) rfl)), ?_⟩
  refine i_start (σ' := [some (V.ref x), some y]) rfl ?_
  repeat walk_at "rd"
  exact ⟨x, a.InvalidNumber, rfl, T.e_InvalidNumber.xk, T.n_InvalidNumber_value, .inl ⟨hx, q⟩⟩
theorem mk_InvalidNumber (T : Txt W.K W.mg a) : XMak W 1 "InvalidNumber" a.InvalidNumber 0 ["value"] (spX1 a.InvalidNumber "value") := by
  refine xmak_of T.e_InvalidNumber sc_InvalidNumber_init xk_InvalidNumber (fun vs H Q E ⟨x, y, h, _⟩ => by rw [h]; rfl) fun f cdv A outer s H vs Q E hr h => ?_
  obtain ⟨x, y, rfl, hx, q⟩ := h
  refine ⟨_, (pss_one (ps_xst (pv 0) (pv 1) rfl)), ?_⟩
  refine i_start (σ' := [some (V.ref x), some y]) rfl ?_
  repeat walk_at "rd"
  exact ⟨x, a.InvalidNumber, rfl, T.e_InvalidNumber.xk, T.n_InvalidNumber_value, .inl ⟨hx, q⟩⟩
theorem mx_InvalidName (T : Txt W.K W.mg a) : XMak W 1 "InvalidName" a.InvalidName 1 [] (spX1 a.InvalidName "value") := by
  refine xmak_of T.e_InvalidName sc_InvalidName_init xb_InvalidName (fun vs H Q E ⟨x, y, h, _⟩ => by rw [h]; rfl) fun f cdv A outer s H vs Q E hr h => ?_
  obtain ⟨x, y, rfl, hx, q⟩ := h
  refine ⟨_, (pss_one (ps_xst (pv 0) (pv 1) rfl)), ?_⟩
  refine i_start (σ' := [some (V.ref x), some y]) rfl ?_
  repeat walk_at "rd"
  exact ⟨x, a.InvalidName, rfl, T.e_InvalidName.xk, T.n_InvalidName_value, .inl ⟨hx, q⟩⟩
theorem mk_InvalidName (T : Txt W.K W.mg a) : XMak W 1 "InvalidName" a.InvalidName 0 ["value"] (spX1 a.InvalidName "value") := by
  refine xmak_of T.e_InvalidName sc_InvalidName_init xk_InvalidName (fun vs H Q E ⟨x, y, h, _⟩ => by rw [h]; rfl) fun f cdv A outer s H vs Q E hr h => ?_
  obtain ⟨x, y, rfl, hx, q⟩ := h
  refine ⟨_, (pss_one (ps_xst (pv 0) (pv 1) rfl)), ?_⟩
  refine i_start (σ' := [some (V.ref x), some y]) rfl ?_
  repeat walk_at "rd"
  exact ⟨x, a.InvalidName, rfl, T.e_InvalidName.xk, T.n_InvalidName_value, .inl ⟨hx, q⟩⟩
theorem mx_InvalidMoves (T : Txt W.K W.mg a) : XMak W 1 "InvalidMoves" a.InvalidMoves 1 [] (spX1 a.InvalidMoves "position") := by
  refine xmak_of T.e_InvalidMoves sc_InvalidMoves_init xb_InvalidMoves (fun vs H Q E ⟨x, y, h, _⟩ => by rw [h]; rfl) fun f cdv A outer s H vs Q E hr h => ?_
  obtain ⟨x, y, rfl, hx, q⟩ := h
  refine ⟨_, (pss_one (ps_xst (pv 0) (pv 1) rfl)), ?_⟩
  refine i_start (σ' := [some (V.ref x), some y]) rfl ?_
  repeat walk_at "rd"
  exact ⟨x, a.InvalidMoves, rfl, T.e_InvalidMoves.xk, T.n_InvalidMoves_position, .inl ⟨hx, q⟩⟩
theorem mk_InvalidMoves (T : Txt W.K W.mg a) : XMak W 1 "InvalidMoves" a.InvalidMoves 0 ["position"] (spX1 a.InvalidMoves "position") := by
  refine xmak_of T.e_InvalidMoves sc_InvalidMoves_init xk_InvalidMoves (fun vs H Q E ⟨x, y, h, _⟩ => by rw [h]; rfl) fun f cdv A outer s H vs Q E hr h => ?_
  obtain ⟨x, y, rfl, hx, q⟩ := h
  refine ⟨_, (pss_one (ps_xst (pv 0) (pv 1) rfl)), ?_⟩
  refine i_start (σ' := [some (V.ref x), some y]) rfl ?_
  repeat walk_at "rd"
  exact ⟨x, a.InvalidMoves, rfl, T.e_InvalidMoves.xk, T.n_InvalidMoves_position, .inl ⟨hx, q⟩⟩
theorem mx_InvalidServers (T : Txt W.K W.mg a) : XMak W 1 "InvalidServers" a.InvalidServers 1 [] (spX1 a.InvalidServers "value") := by
  refine xmak_of T.e_InvalidServers sc_InvalidServers_init xb_InvalidServers (fun vs H Q E ⟨x, y, h, _⟩ => by rw [h]; rfl) fun f cdv A outer s H vs Q E hr h => ?_
  obtain ⟨x, y, rfl, hx, q⟩ := h
  refine ⟨_, (pss_one (ps_xst (pv 0) (pv 1) rfl)), ?_⟩
  refine i_start (σ' := [some (V.ref x), some y]) rfl ?_
  repeat walk_at "rd"
  exact ⟨x, a.InvalidServers, rfl, T.e_InvalidServers.xk, T.n_InvalidServers_value, .inl ⟨hx, q⟩⟩
theorem mk_InvalidServers (T : Txt W.K W.mg a) : XMak W 1 "InvalidServers" a.InvalidServers 0 ["value"] (spX1 a.InvalidServers "value") := by
  refine xmak_of T.e_InvalidServers sc_InvalidServers_init xk_InvalidServers (fun vs H Q E ⟨x, y, h, _⟩ => by rw [h]; rfl) fun f cdv A outer s H vs Q E hr h => ?_
  obtain ⟨x, y, rfl, hx, q⟩ := h
  refine ⟨_, (pss_one (ps_xst (pv 0) (pv 1) rfl)), ?_⟩
  refine i_start (σ' := [some (V.ref x), some y]) rfl ?_
  repeat walk_at "rd"
  exact ⟨x, a.InvalidServers, rfl, T.e_InvalidServers.xk, T.n_InvalidServers_value, .inl ⟨hx, q⟩⟩
theorem mx_InvalidSpeed (T : Txt W.K W.mg a) : XMak W 1 "InvalidSpeed" a.InvalidSpeed 1 [] (spX1 a.InvalidSpeed "server") := by
  refine xmak_of T.e_InvalidSpeed sc_InvalidSpeed_init xb_InvalidSpeed (fun vs H Q E ⟨x, y, h, _⟩ => by rw [h]; rfl) fun f cdv A outer s H vs Q E hr h => ?_
  obtain ⟨x, y, rfl, hx, q⟩ := h
  refine ⟨_, (pss_one (ps_xst (pv 0) (pv 1) rfl)), ?_⟩
  refine i_start (σ' := [some (V.ref x), some y]) rfl ?_
  repeat walk_at "rd"
  exact ⟨x, a.InvalidSpeed, rfl, T.e_InvalidSpeed.xk, T.n_InvalidSpeed_server, .inl ⟨hx, q⟩⟩
theorem mk_InvalidSpeed (T : Txt W.K W.mg a) : XMak W 1 "InvalidSpeed" a.InvalidSpeed 0 ["server"] (spX1 a.InvalidSpeed "server") := by
  refine xmak_of T.e_InvalidSpeed sc_InvalidSpeed_init xk_InvalidSpeed (fun vs H Q E ⟨x, y, h, _⟩ => by rw [h]; rfl) fun f cdv A outer s H vs Q E hr h => ?_
  obtain ⟨x, y, rfl, hx, q⟩ := h
  refine ⟨_, (pss_one (ps_xst (pv 0) (pv 1) rfl)), ?_⟩
  refine i_start (σ' := [some (V.ref x), some y]) rfl ?_
  repeat walk_at "rd"
  exact ⟨x, a.InvalidSpeed, rfl, T.e_InvalidSpeed.xk, T.n_InvalidSpeed_server, .inl ⟨hx, q⟩⟩
theorem mx_InvalidTasks (T : Txt W.K W.mg a) : XMak W 1 "InvalidTasks" a.InvalidTasks 1 [] (spX1 a.InvalidTasks "value") := by
  refine xmak_of T.e_InvalidTasks sc_InvalidTasks_init xb_InvalidTasks (fun vs H Q E ⟨x, y, h, _⟩ => by rw [h]; rfl) fun f cdv A outer s H vs Q E hr h => ?_
  obtain ⟨x, y, rfl, hx, q⟩ := h
  refine ⟨_, (pss_one (ps_xst (pv 0) (pv 1) rfl)), ?_⟩
  refine i_start (σ' := [some (V.ref x), some y]) rfl ?_
  repeat walk_at "rd"
  exact ⟨x, a.InvalidTasks, rfl, T.e_InvalidTasks.xk, T.n_InvalidTasks_value, .inl ⟨hx, q⟩⟩
theorem mk_InvalidTasks (T : Txt W.K W.mg a) : XMak W 1 "InvalidTasks" a.InvalidTasks 0 ["value"] (spX1 a.InvalidTasks "value") := by
  refine xmak_of T.e_InvalidTasks sc_InvalidTasks_init xk_InvalidTasks (fun vs H Q E ⟨x, y, h, _⟩ => by rw [h]; rfl) fun f cdv A outer s H vs Q E hr h => ?_
  obtain ⟨x, y, rfl, hx, q⟩ := h
  refine ⟨_, (pss_one (ps_xst (pv 0) (pv 1) rfl)), ?_⟩
  refine i_start (σ' := [some (V.ref x), some y]) rfl ?_
  repeat walk_at "rd"
  exact ⟨x, a.InvalidTasks, rfl, T.e_InvalidTasks.xk, T.n_InvalidTasks_value, .inl ⟨hx, q⟩⟩
theorem mx_InvalidTask (T : Txt W.K W.mg a) : XMak W 1 "InvalidTask" a.InvalidTask 1 [] (spX1 a.InvalidTask "name") := by
  refine xmak_of T.e_InvalidTask sc_InvalidTask_init xb_InvalidTask (fun vs H Q E ⟨x, y, h, _⟩ => by rw [h]; rfl) fun f cdv A outer s H vs Q E hr h => ?_
  obtain ⟨x, y, rfl, hx, q⟩ := h
  refine ⟨_, (pss_one (ps_xst (pv 0) (pv 1) rfl)), ?_⟩
  refine i_start (σ' := [some (V.ref x), some y]) rfl ?_
  repeat walk_at "rd"
  exact ⟨x, a.InvalidTask, rfl, T.e_InvalidTask.xk, T.n_InvalidTask_name, .inl ⟨hx, q⟩⟩
theorem mk_InvalidTask (T : Txt W.K W.mg a) : XMak W 1 "InvalidTask" a.InvalidTask 0 ["name"] (spX1 a.InvalidTask "name") := by
  refine xmak_of T.e_InvalidTask sc_InvalidTask_init xk_InvalidTask (fun vs H Q E ⟨x, y, h, _⟩ => by rw [h]; rfl) fun f cdv A outer s H vs Q E hr h => ?_
  obtain ⟨x, y, rfl, hx, q⟩ := h
  refine ⟨_, (pss_one (ps_xst (pv 0) (pv 1) rfl)), ?_⟩
  refine i_start (σ' := [some (V.ref x), some y]) rfl ?_
  repeat walk_at "rd"
  exact ⟨x, a.InvalidTask, rfl, T.e_InvalidTask.xk, T.n_InvalidTask_name, .inl ⟨hx, q⟩⟩
theorem mx_InvalidWork (T : Txt W.K W.mg a) : XMak W 1 "InvalidWork" a.InvalidWork 1 [] (spX1 a.InvalidWork "value") := by
  refine xmak_of T.e_InvalidWork sc_InvalidWork_init xb_InvalidWork (fun vs H Q E ⟨x, y, h, _⟩ => by rw [h]; rfl) fun f cdv A outer s H vs Q E hr h => ?_
  obtain ⟨x, y, rfl, hx, q⟩ := h
  refine ⟨_, (pss_one (ps_xst (pv 0) (pv 1) rfl)), ?_⟩
  refine i_start (σ' := [some (V.ref x), some y]) rfl ?_
  repeat walk_at "rd"
  exact ⟨x, a.InvalidWork, rfl, T.e_InvalidWork.xk, T.n_InvalidWork_value, .inl ⟨hx, q⟩⟩
theorem mk_InvalidWork (T : Txt W.K W.mg a) : XMak W 1 "InvalidWork" a.InvalidWork 0 ["value"] (spX1 a.InvalidWork "value") := by
  refine xmak_of T.e_InvalidWork sc_InvalidWork_init xk_InvalidWork (fun vs H Q E ⟨x, y, h, _⟩ => by rw [h]; rfl) fun f cdv A outer s H vs Q E hr h => ?_
  obtain ⟨x, y, rfl, hx, q⟩ := h
  refine ⟨_, (pss_one (ps_xst (pv 0) (pv 1) rfl)), ?_⟩
  refine i_start (σ' := [some (V.ref x), some y]) rfl ?_
  repeat walk_at "rd"
  exact ⟨x, a.InvalidWork, rfl, T.e_InvalidWork.xk, T.n_InvalidWork_value, .inl ⟨hx, q⟩⟩
theorem mx_InvalidYard (T : Txt W.K W.mg a) : XMak W 1 "InvalidYard" a.InvalidYard 1 [] (spX1 a.InvalidYard "value") := by
  refine xmak_of T.e_InvalidYard sc_InvalidYard_init xb_InvalidYard (fun vs H Q E ⟨x, y, h, _⟩ => by rw [h]; rfl) fun f cdv A outer s H vs Q E hr h => ?_
  obtain ⟨x, y, rfl, hx, q⟩ := h
  refine ⟨_, (pss_one (ps_xst (pv 0) (pv 1) rfl)), ?_⟩
  refine i_start (σ' := [some (V.ref x), some y]) rfl ?_
  repeat walk_at "rd"
  exact ⟨x, a.InvalidYard, rfl, T.e_InvalidYard.xk, T.n_InvalidYard_value, .inl ⟨hx, q⟩⟩
theorem mk_InvalidYard (T : Txt W.K W.mg a) : XMak W 1 "InvalidYard" a.InvalidYard 0 ["value"] (spX1 a.InvalidYard "value") := by
  refine xmak_of T.e_InvalidYard sc_InvalidYard_init xk_InvalidYard (fun vs H Q E ⟨x, y, h, _⟩ => by rw [h]; rfl) fun f cdv A outer s H vs Q E hr h => ?_
  obtain ⟨x, y, rfl, hx, q⟩ := h
  refine ⟨_, (pss_one (ps_xst (pv 0) (pv 1) rfl)), ?_⟩
  refine i_start (σ' := [some (V.ref x), some y]) rfl ?_
  repeat walk_at "rd"
  exact ⟨x, a.InvalidYard, rfl, T.e_InvalidYard.xk, T.n_InvalidYard_value, .inl ⟨hx, q⟩⟩
theorem mx_InvalidAmounts (T : Txt W.K W.mg a) : XMak W 1 "InvalidAmounts" a.InvalidAmounts 1 [] (spX1 a.InvalidAmounts "value") := by
  refine xmak_of T.e_InvalidAmounts sc_InvalidAmounts_init xb_InvalidAmounts (fun vs H Q E ⟨x, y, h, _⟩ => by rw [h]; rfl) fun f cdv A outer s H vs Q E hr h => ?_
  obtain ⟨x, y, rfl, hx, q⟩ := h
  refine ⟨_, (pss_one (ps_xst (pv 0) (pv 1) rfl)), ?_⟩
  refine i_start (σ' := [some (V.ref x), some y]) rfl ?_
  repeat walk_at "rd"
  exact ⟨x, a.InvalidAmounts, rfl, T.e_InvalidAmounts.xk, T.n_InvalidAmounts_value, .inl ⟨hx, q⟩⟩
theorem mk_InvalidAmounts (T : Txt W.K W.mg a) : XMak W 1 "InvalidAmounts" a.InvalidAmounts 0 ["value"] (spX1 a.InvalidAmounts "value") := by
  refine xmak_of T.e_InvalidAmounts sc_InvalidAmounts_init xk_InvalidAmounts (fun vs H Q E ⟨x, y, h, _⟩ => by rw [h]; rfl) fun f cdv A outer s H vs Q E hr h => ?_
  obtain ⟨x, y, rfl, hx, q⟩ := h
  refine ⟨_, (pss_one (ps_xst (pv 0) (pv 1) rfl)), ?_⟩
  refine i_start (σ' := [some (V.ref x), some y]) rfl ?_
  repeat walk_at "rd"
  exact ⟨x, a.InvalidAmounts, rfl, T.e_InvalidAmounts.xk, T.n_InvalidAmounts_value, .inl ⟨hx, q⟩⟩
theorem mx_WrongSum (T : Txt W.K W.mg a) : XMak W 1 "WrongSum" a.WrongSum 1 [] (spX1 a.WrongSum "name") := by
  refine xmak_of T.e_WrongSum sc_WrongSum_init xb_WrongSum (fun vs H Q E ⟨x, y, h, _⟩ => by rw [h]; rfl) fun f cdv A outer s H vs Q E hr h => ?_
  obtain ⟨x, y, rfl, hx, q⟩ := h
  refine ⟨_, (pss_one (ps_xst (pv 0) (pv 1) rfl)), ?_⟩
  refine i_start (σ' := [some (V.ref x), some y]) rfl ?_
  repeat walk_at "rd"
  exact ⟨x, a.WrongSum, rfl, T.e_WrongSum.xk, T.n_WrongSum_name, .inl ⟨hx, q⟩⟩
theorem mk_WrongSum (T : Txt W.K W.mg a) : XMak W 1 "WrongSum" a.WrongSum 0 ["name"] (spX1 a.WrongSum "name") := by
  refine xmak_of T.e_WrongSum sc_WrongSum_init xk_WrongSum (fun vs H Q E ⟨x, y, h, _⟩ => by rw [h]; rfl) fun f cdv A outer s H vs Q E hr h => ?_
  obtain ⟨x, y, rfl, hx, q⟩ := h
  refine ⟨_, (pss_one (ps_xst (pv 0) (pv 1) rfl)), ?_⟩
  refine i_start (σ' := [some (V.ref x), some y]) rfl ?_
  repeat walk_at "rd"
  exact ⟨x, a.WrongSum, rfl, T.e_WrongSum.xk, T.n_WrongSum_name, .inl ⟨hx, q⟩⟩
theorem mx_InvalidPlan (T : Txt W.K W.mg a) : XMak W 1 "InvalidPlan" a.InvalidPlan 1 [] (spX1 a.InvalidPlan "value") := by
  refine xmak_of T.e_InvalidPlan sc_InvalidPlan_init xb_InvalidPlan (fun vs H Q E ⟨x, y, h, _⟩ => by rw [h]; rfl) fun f cdv A outer s H vs Q E hr h => ?_
  obtain ⟨x, y, rfl, hx, q⟩ := h
  refine ⟨_, (pss_one (ps_xst (pv 0) (pv 1) rfl)), ?_⟩
  refine i_start (σ' := [some (V.ref x), some y]) rfl ?_
  repeat walk_at "rd"
  exact ⟨x, a.InvalidPlan, rfl, T.e_InvalidPlan.xk, T.n_InvalidPlan_value, .inl ⟨hx, q⟩⟩
theorem mk_InvalidPlan (T : Txt W.K W.mg a) : XMak W 1 "InvalidPlan" a.InvalidPlan 0 ["value"] (spX1 a.InvalidPlan "value") := by
  refine xmak_of T.e_InvalidPlan sc_InvalidPlan_init xk_InvalidPlan (fun vs H Q E ⟨x, y, h, _⟩ => by rw [h]; rfl) fun f cdv A outer s H vs Q E hr h => ?_
  obtain ⟨x, y, rfl, hx, q⟩ := h
  refine ⟨_, (pss_one (ps_xst (pv 0) (pv 1) rfl)), ?_⟩
  refine i_start (σ' := [some (V.ref x), some y]) rfl ?_
  repeat walk_at "rd"
  exact ⟨x, a.InvalidPlan, rfl, T.e_InvalidPlan.xk, T.n_InvalidPlan_value, .inl ⟨hx, q⟩⟩
theorem mx_InvalidGift (T : Txt W.K W.mg a) : XMak W 1 "InvalidGift" a.InvalidGift 1 [] (spX1 a.InvalidGift "value") := by
  refine xmak_of T.e_InvalidGift sc_InvalidGift_init xb_InvalidGift (fun vs H Q E ⟨x, y, h, _⟩ => by rw [h]; rfl) fun f cdv A outer s H vs Q E hr h => ?_
  obtain ⟨x, y, rfl, hx, q⟩ := h
  refine ⟨_, (pss_one (ps_xst (pv 0) (pv 1) rfl)), ?_⟩
  refine i_start (σ' := [some (V.ref x), some y]) rfl ?_
  repeat walk_at "rd"
  exact ⟨x, a.InvalidGift, rfl, T.e_InvalidGift.xk, T.n_InvalidGift_value, .inl ⟨hx, q⟩⟩
theorem mk_InvalidGift (T : Txt W.K W.mg a) : XMak W 1 "InvalidGift" a.InvalidGift 0 ["value"] (spX1 a.InvalidGift "value") := by
  refine xmak_of T.e_InvalidGift sc_InvalidGift_init xk_InvalidGift (fun vs H Q E ⟨x, y, h, _⟩ => by rw [h]; rfl) fun f cdv A outer s H vs Q E hr h => ?_
  obtain ⟨x, y, rfl, hx, q⟩ := h
  refine ⟨_, (pss_one (ps_xst (pv 0) (pv 1) rfl)), ?_⟩
  refine i_start (σ' := [some (V.ref x), some y]) rfl ?_
  repeat walk_at "rd"
  exact ⟨x, a.InvalidGift, rfl, T.e_InvalidGift.xk, T.n_InvalidGift_value, .inl ⟨hx, q⟩⟩
theorem mx_InvalidShare (T : Txt W.K W.mg a) : XMak W 1 "InvalidShare" a.InvalidShare 1 [] (spX1 a.InvalidShare "value") := by
  refine xmak_of T.e_InvalidShare sc_InvalidShare_init xb_InvalidShare (fun vs H Q E ⟨x, y, h, _⟩ => by rw [h]; rfl) fun f cdv A outer s H vs Q E hr h => ?_
  obtain ⟨x, y, rfl, hx, q⟩ := h
  refine ⟨_, (pss_one (ps_xst (pv 0) (pv 1) rfl)), ?_⟩
  refine i_start (σ' := [some (V.ref x), some y]) rfl ?_
  repeat walk_at "rd"
  exact ⟨x, a.InvalidShare, rfl, T.e_InvalidShare.xk, T.n_InvalidShare_value, .inl ⟨hx, q⟩⟩
theorem mk_InvalidShare (T : Txt W.K W.mg a) : XMak W 1 "InvalidShare" a.InvalidShare 0 ["value"] (spX1 a.InvalidShare "value") := by
  refine xmak_of T.e_InvalidShare sc_InvalidShare_init xk_InvalidShare (fun vs H Q E ⟨x, y, h, _⟩ => by rw [h]; rfl) fun f cdv A outer s H vs Q E hr h => ?_
  obtain ⟨x, y, rfl, hx, q⟩ := h
  refine ⟨_, (pss_one (ps_xst (pv 0) (pv 1) rfl)), ?_⟩
  refine i_start (σ' := [some (V.ref x), some y]) rfl ?_
  repeat walk_at "rd"
  exact ⟨x, a.InvalidShare, rfl, T.e_InvalidShare.xk, T.n_InvalidShare_value, .inl ⟨hx, q⟩⟩
theorem mx_InvalidLines (T : Txt W.K W.mg a) : XMak W 1 "InvalidLines" a.InvalidLines 1 [] (spX1 a.InvalidLines "position") := by
  refine xmak_of T.e_InvalidLines sc_InvalidLines_init xb_InvalidLines (fun vs H Q E ⟨x, y, h, _⟩ => by rw [h]; rfl) fun f cdv A outer s H vs Q E hr h => ?_
  obtain ⟨x, y, rfl, hx, q⟩ := h
  refine ⟨_, (pss_one (ps_xst (pv 0) (pv 1) rfl)), ?_⟩
  refine i_start (σ' := [some (V.ref x), some y]) rfl ?_
  repeat walk_at "rd"
  exact ⟨x, a.InvalidLines, rfl, T.e_InvalidLines.xk, T.n_InvalidLines_position, .inl ⟨hx, q⟩⟩
theorem mk_InvalidLines (T : Txt W.K W.mg a) : XMak W 1 "InvalidLines" a.InvalidLines 0 ["position"] (spX1 a.InvalidLines "position") := by
  refine xmak_of T.e_InvalidLines sc_InvalidLines_init xk_InvalidLines (fun vs H Q E ⟨x, y, h, _⟩ => by rw [h]; rfl) fun f cdv A outer s H vs Q E hr h => ?_
  obtain ⟨x, y, rfl, hx, q⟩ := h
  refine ⟨_, (pss_one (ps_xst (pv 0) (pv 1) rfl)), ?_⟩
  refine i_start (σ' := [some (V.ref x), some y]) rfl ?_
  repeat walk_at "rd"
  exact ⟨x, a.InvalidLines, rfl, T.e_InvalidLines.xk, T.n_InvalidLines_position, .inl ⟨hx, q⟩⟩
theorem mx_InvalidBounds (T : Txt W.K W.mg a) : XMak W 1 "InvalidBounds" a.InvalidBounds 1 [] (spX1 a.InvalidBounds "value") := by
  refine xmak_of T.e_InvalidBounds sc_InvalidBounds_init xb_InvalidBounds (fun vs H Q E ⟨x, y, h, _⟩ => by rw [h]; rfl) fun f cdv A outer s H vs Q E hr h => ?_
  obtain ⟨x, y, rfl, hx, q⟩ := h
  refine ⟨_, (pss_one (ps_xst (pv 0) (pv 1) rfl)), ?_⟩
  refine i_start (σ' := [some (V.ref x), some y]) rfl ?_
  repeat walk_at "rd"
  exact ⟨x, a.InvalidBounds, rfl, T.e_InvalidBounds.xk, T.n_InvalidBounds_value, .inl ⟨hx, q⟩⟩
theorem mk_InvalidBounds (T : Txt W.K W.mg a) : XMak W 1 "InvalidBounds" a.InvalidBounds 0 ["value"] (spX1 a.InvalidBounds "value") := by
  refine xmak_of T.e_InvalidBounds sc_InvalidBounds_init xk_InvalidBounds (fun vs H Q E ⟨x, y, h, _⟩ => by rw [h]; rfl) fun f cdv A outer s H vs Q E hr h => ?_
  obtain ⟨x, y, rfl, hx, q⟩ := h
  refine ⟨_, (pss_one (ps_xst (pv 0) (pv 1) rfl)), ?_⟩
  refine i_start (σ' := [some (V.ref x), some y]) rfl ?_
  repeat walk_at "rd"
  exact ⟨x, a.InvalidBounds, rfl, T.e_InvalidBounds.xk, T.n_InvalidBounds_value, .inl ⟨hx, q⟩⟩
theorem mx_InvalidAssignment (T : Txt W.K W.mg a) : XMak W 1 "InvalidAssignment" a.InvalidAssignment 1 [] (spX1 a.InvalidAssignment "value") := by
  refine xmak_of T.e_InvalidAssignment sc_InvalidAssignment_init xb_InvalidAssignment (fun vs H Q E ⟨x, y, h, _⟩ => by rw [h]; rfl) fun f cdv A outer s H vs Q E hr h => ?_
  obtain ⟨x, y, rfl, hx, q⟩ := h
  refine ⟨_, (pss_one (ps_xst (pv 0) (pv 1) rfl)), ?_⟩
  refine i_start (σ' := [some (V.ref x), some y]) rfl ?_
  repeat walk_at "rd"
  exact ⟨x, a.InvalidAssignment, rfl, T.e_InvalidAssignment.xk, T.n_InvalidAssignment_value, .inl ⟨hx, q⟩⟩
theorem mk_InvalidAssignment (T : Txt W.K W.mg a) : XMak W 1 "InvalidAssignment" a.InvalidAssignment 0 ["value"] (spX1 a.InvalidAssignment "value") := by
  refine xmak_of T.e_InvalidAssignment sc_InvalidAssignment_init xk_InvalidAssignment (fun vs H Q E ⟨x, y, h, _⟩ => by rw [h]; rfl) fun f cdv A outer s H vs Q E hr h => ?_
  obtain ⟨x, y, rfl, hx, q⟩ := h
  refine ⟨_, (pss_one (ps_xst (pv 0) (pv 1) rfl)), ?_⟩
  refine i_start (σ' := [some (V.ref x), some y]) rfl ?_
  repeat walk_at "rd"
  exact ⟨x, a.InvalidAssignment, rfl, T.e_InvalidAssignment.xk, T.n_InvalidAssignment_value, .inl ⟨hx, q⟩⟩
theorem mx_InvalidText (T : Txt W.K W.mg a) : XMak W 1 "InvalidText" a.InvalidText 1 [] (spX1 a.InvalidText "line") := by
  refine xmak_of T.e_InvalidText sc_InvalidText_init xb_InvalidText (fun vs H Q E ⟨x, y, h, _⟩ => by rw [h]; rfl) fun f cdv A outer s H vs Q E hr h => ?_
  obtain ⟨x, y, rfl, hx, q⟩ := h
  refine ⟨_, (pss_one (ps_xst (pv 0) (pv 1) rfl)), ?_⟩
  refine i_start (σ' := [some (V.ref x), some y]) rfl ?_
  repeat walk_at "rd"
  exact ⟨x, a.InvalidText, rfl, T.e_InvalidText.xk, T.n_InvalidText_line, .inl ⟨hx, q⟩⟩
theorem mk_InvalidText (T : Txt W.K W.mg a) : XMak W 1 "InvalidText" a.InvalidText 0 ["line"] (spX1 a.InvalidText "line") := by
  refine xmak_of T.e_InvalidText sc_InvalidText_init xk_InvalidText (fun vs H Q E ⟨x, y, h, _⟩ => by rw [h]; rfl) fun f cdv A outer s H vs Q E hr h => ?_
  obtain ⟨x, y, rfl, hx, q⟩ := h
  refine ⟨_, (pss_one (ps_xst (pv 0) (pv 1) rfl)), ?_⟩
  refine i_start (σ' := [some (V.ref x), some y]) rfl ?_
  repeat walk_at "rd"
  exact ⟨x, a.InvalidText, rfl, T.e_InvalidText.xk, T.n_InvalidText_line, .inl ⟨hx, q⟩⟩
theorem mx_InvalidClaim (T : Txt W.K W.mg a) : XMak W 1 "InvalidClaim" a.InvalidClaim 1 [] (spX1 a.InvalidClaim "value") := by
  refine xmak_of T.e_InvalidClaim sc_InvalidClaim_init xb_InvalidClaim (fun vs H Q E ⟨x, y, h, _⟩ => by rw [h]; rfl) fun f cdv A outer s H vs Q E hr h => ?_
  obtain ⟨x, y, rfl, hx, q⟩ := h
  refine ⟨_, (pss_one (ps_xst (pv 0) (pv 1) rfl)), ?_⟩
  refine i_start (σ' := [some (V.ref x), some y]) rfl ?_
  repeat walk_at "rd"
  exact ⟨x, a.InvalidClaim, rfl, T.e_InvalidClaim.xk, T.n_InvalidClaim_value, .inl ⟨hx, q⟩⟩
theorem mk_InvalidClaim (T : Txt W.K W.mg a) : XMak W 1 "InvalidClaim" a.InvalidClaim 0 ["value"] (spX1 a.InvalidClaim "value") := by
  refine xmak_of T.e_InvalidClaim sc_InvalidClaim_init xk_InvalidClaim (fun vs H Q E ⟨x, y, h, _⟩ => by rw [h]; rfl) fun f cdv A outer s H vs Q E hr h => ?_
  obtain ⟨x, y, rfl, hx, q⟩ := h
  refine ⟨_, (pss_one (ps_xst (pv 0) (pv 1) rfl)), ?_⟩
  refine i_start (σ' := [some (V.ref x), some y]) rfl ?_
  repeat walk_at "rd"
  exact ⟨x, a.InvalidClaim, rfl, T.e_InvalidClaim.xk, T.n_InvalidClaim_value, .inl ⟨hx, q⟩⟩
theorem mx_InvalidCommand (T : Txt W.K W.mg a) : XMak W 1 "InvalidCommand" a.InvalidCommand 1 [] (spX1 a.InvalidCommand "value") := by
  refine xmak_of T.e_InvalidCommand sc_InvalidCommand_init xb_InvalidCommand (fun vs H Q E ⟨x, y, h, _⟩ => by rw [h]; rfl) fun f cdv A outer s H vs Q E hr h => ?_
  obtain ⟨x, y, rfl, hx, q⟩ := h
  refine ⟨_, (pss_one (ps_xst (pv 0) (pv 1) rfl)), ?_⟩
  refine i_start (σ' := [some (V.ref x), some y]) rfl ?_
  repeat walk_at "rd"
  exact ⟨x, a.InvalidCommand, rfl, T.e_InvalidCommand.xk, T.n_InvalidCommand_value, .inl ⟨hx, q⟩⟩
theorem mk_InvalidCommand (T : Txt W.K W.mg a) : XMak W 1 "InvalidCommand" a.InvalidCommand 0 ["value"] (spX1 a.InvalidCommand "value") := by
  refine xmak_of T.e_InvalidCommand sc_InvalidCommand_init xk_InvalidCommand (fun vs H Q E ⟨x, y, h, _⟩ => by rw [h]; rfl) fun f cdv A outer s H vs Q E hr h => ?_
  obtain ⟨x, y, rfl, hx, q⟩ := h
  refine ⟨_, (pss_one (ps_xst (pv 0) (pv 1) rfl)), ?_⟩
  refine i_start (σ' := [some (V.ref x), some y]) rfl ?_
  repeat walk_at "rd"
  exact ⟨x, a.InvalidCommand, rfl, T.e_InvalidCommand.xk, T.n_InvalidCommand_value, .inl ⟨hx, q⟩⟩
theorem mx_UnknownServer (T : Txt W.K W.mg a) : XMak W 1 "UnknownServer" a.UnknownServer 1 [] (spX1 a.UnknownServer "value") := by
  refine xmak_of T.e_UnknownServer sc_UnknownServer_init xb_UnknownServer (fun vs H Q E ⟨x, y, h, _⟩ => by rw [h]; rfl) fun f cdv A outer s H vs Q E hr h => ?_
  obtain ⟨x, y, rfl, hx, q⟩ := h
  refine ⟨_, (pss_one (ps_xst (pv 0) (pv 1) rfl)), ?_⟩
  refine i_start (σ' := [some (V.ref x), some y]) rfl ?_
  repeat walk_at "rd"
  exact ⟨x, a.UnknownServer, rfl, T.e_UnknownServer.xk, T.n_UnknownServer_value, .inl ⟨hx, q⟩⟩
theorem mk_UnknownServer (T : Txt W.K W.mg a) : XMak W 1 "UnknownServer" a.UnknownServer 0 ["value"] (spX1 a.UnknownServer "value") := by
  refine xmak_of T.e_UnknownServer sc_UnknownServer_init xk_UnknownServer (fun vs H Q E ⟨x, y, h, _⟩ => by rw [h]; rfl) fun f cdv A outer s H vs Q E hr h => ?_
  obtain ⟨x, y, rfl, hx, q⟩ := h
  refine ⟨_, (pss_one (ps_xst (pv 0) (pv 1) rfl)), ?_⟩
  refine i_start (σ' := [some (V.ref x), some y]) rfl ?_
  repeat walk_at "rd"
  exact ⟨x, a.UnknownServer, rfl, T.e_UnknownServer.xk, T.n_UnknownServer_value, .inl ⟨hx, q⟩⟩
theorem mx_UnknownTask (T : Txt W.K W.mg a) : XMak W 1 "UnknownTask" a.UnknownTask 1 [] (spX1 a.UnknownTask "value") := by
  refine xmak_of T.e_UnknownTask sc_UnknownTask_init xb_UnknownTask (fun vs H Q E ⟨x, y, h, _⟩ => by rw [h]; rfl) fun f cdv A outer s H vs Q E hr h => ?_
  obtain ⟨x, y, rfl, hx, q⟩ := h
  refine ⟨_, (pss_one (ps_xst (pv 0) (pv 1) rfl)), ?_⟩
  refine i_start (σ' := [some (V.ref x), some y]) rfl ?_
  repeat walk_at "rd"
  exact ⟨x, a.UnknownTask, rfl, T.e_UnknownTask.xk, T.n_UnknownTask_value, .inl ⟨hx, q⟩⟩
theorem mk_UnknownTask (T : Txt W.K W.mg a) : XMak W 1 "UnknownTask" a.UnknownTask 0 ["value"] (spX1 a.UnknownTask "value") := by
  refine xmak_of T.e_UnknownTask sc_UnknownTask_init xk_UnknownTask (fun vs H Q E ⟨x, y, h, _⟩ => by rw [h]; rfl) fun f cdv A outer s H vs Q E hr h => ?_
  obtain ⟨x, y, rfl, hx, q⟩ := h
  refine ⟨_, (pss_one (ps_xst (pv 0) (pv 1) rfl)), ?_⟩
  refine i_start (σ' := [some (V.ref x), some y]) rfl ?_
  repeat walk_at "rd"
  exact ⟨x, a.UnknownTask, rfl, T.e_UnknownTask.xk, T.n_UnknownTask_value, .inl ⟨hx, q⟩⟩
theorem mx_UnknownPlace (T : Txt W.K W.mg a) : XMak W 1 "UnknownPlace" a.UnknownPlace 1 [] (spX1 a.UnknownPlace "value") := by
  refine xmak_of T.e_UnknownPlace sc_UnknownPlace_init xb_UnknownPlace (fun vs H Q E ⟨x, y, h, _⟩ => by rw [h]; rfl) fun f cdv A outer s H vs Q E hr h => ?_
  obtain ⟨x, y, rfl, hx, q⟩ := h
  refine ⟨_, (pss_one (ps_xst (pv 0) (pv 1) rfl)), ?_⟩
  refine i_start (σ' := [some (V.ref x), some y]) rfl ?_
  repeat walk_at "rd"
  exact ⟨x, a.UnknownPlace, rfl, T.e_UnknownPlace.xk, T.n_UnknownPlace_value, .inl ⟨hx, q⟩⟩
theorem mk_UnknownPlace (T : Txt W.K W.mg a) : XMak W 1 "UnknownPlace" a.UnknownPlace 0 ["value"] (spX1 a.UnknownPlace "value") := by
  refine xmak_of T.e_UnknownPlace sc_UnknownPlace_init xk_UnknownPlace (fun vs H Q E ⟨x, y, h, _⟩ => by rw [h]; rfl) fun f cdv A outer s H vs Q E hr h => ?_
  obtain ⟨x, y, rfl, hx, q⟩ := h
  refine ⟨_, (pss_one (ps_xst (pv 0) (pv 1) rfl)), ?_⟩
  refine i_start (σ' := [some (V.ref x), some y]) rfl ?_
  repeat walk_at "rd"
  exact ⟨x, a.UnknownPlace, rfl, T.e_UnknownPlace.xk, T.n_UnknownPlace_value, .inl ⟨hx, q⟩⟩
theorem mx_ServerTaken (T : Txt W.K W.mg a) : XMak W 1 "ServerTaken" a.ServerTaken 1 [] (spX1 a.ServerTaken "value") := by
  refine xmak_of T.e_ServerTaken sc_ServerTaken_init xb_ServerTaken (fun vs H Q E ⟨x, y, h, _⟩ => by rw [h]; rfl) fun f cdv A outer s H vs Q E hr h => ?_
  obtain ⟨x, y, rfl, hx, q⟩ := h
  refine ⟨_, (pss_one (ps_xst (pv 0) (pv 1) rfl)), ?_⟩
  refine i_start (σ' := [some (V.ref x), some y]) rfl ?_
  repeat walk_at "rd"
  exact ⟨x, a.ServerTaken, rfl, T.e_ServerTaken.xk, T.n_ServerTaken_value, .inl ⟨hx, q⟩⟩
theorem mk_ServerTaken (T : Txt W.K W.mg a) : XMak W 1 "ServerTaken" a.ServerTaken 0 ["value"] (spX1 a.ServerTaken "value") := by
  refine xmak_of T.e_ServerTaken sc_ServerTaken_init xk_ServerTaken (fun vs H Q E ⟨x, y, h, _⟩ => by rw [h]; rfl) fun f cdv A outer s H vs Q E hr h => ?_
  obtain ⟨x, y, rfl, hx, q⟩ := h
  refine ⟨_, (pss_one (ps_xst (pv 0) (pv 1) rfl)), ?_⟩
  refine i_start (σ' := [some (V.ref x), some y]) rfl ?_
  repeat walk_at "rd"
  exact ⟨x, a.ServerTaken, rfl, T.e_ServerTaken.xk, T.n_ServerTaken_value, .inl ⟨hx, q⟩⟩
theorem mx_TaskTaken (T : Txt W.K W.mg a) : XMak W 1 "TaskTaken" a.TaskTaken 1 [] (spX1 a.TaskTaken "value") := by
  refine xmak_of T.e_TaskTaken sc_TaskTaken_init xb_TaskTaken (fun vs H Q E ⟨x, y, h, _⟩ => by rw [h]; rfl) fun f cdv A outer s H vs Q E hr h => ?_
  obtain ⟨x, y, rfl, hx, q⟩ := h
  refine ⟨_, (pss_one (ps_xst (pv 0) (pv 1) rfl)), ?_⟩
  refine i_start (σ' := [some (V.ref x), some y]) rfl ?_
  repeat walk_at "rd"
  exact ⟨x, a.TaskTaken, rfl, T.e_TaskTaken.xk, T.n_TaskTaken_value, .inl ⟨hx, q⟩⟩
theorem mk_TaskTaken (T : Txt W.K W.mg a) : XMak W 1 "TaskTaken" a.TaskTaken 0 ["value"] (spX1 a.TaskTaken "value") := by
  refine xmak_of T.e_TaskTaken sc_TaskTaken_init xk_TaskTaken (fun vs H Q E ⟨x, y, h, _⟩ => by rw [h]; rfl) fun f cdv A outer s H vs Q E hr h => ?_
  obtain ⟨x, y, rfl, hx, q⟩ := h
  refine ⟨_, (pss_one (ps_xst (pv 0) (pv 1) rfl)), ?_⟩
  refine i_start (σ' := [some (V.ref x), some y]) rfl ?_
  repeat walk_at "rd"
  exact ⟨x, a.TaskTaken, rfl, T.e_TaskTaken.xk, T.n_TaskTaken_value, .inl ⟨hx, q⟩⟩
theorem mx_PlaceTaken (T : Txt W.K W.mg a) : XMak W 1 "PlaceTaken" a.PlaceTaken 1 [] (spX1 a.PlaceTaken "value") := by
  refine xmak_of T.e_PlaceTaken sc_PlaceTaken_init xb_PlaceTaken (fun vs H Q E ⟨x, y, h, _⟩ => by rw [h]; rfl) fun f cdv A outer s H vs Q E hr h => ?_
  obtain ⟨x, y, rfl, hx, q⟩ := h
  refine ⟨_, (pss_one (ps_xst (pv 0) (pv 1) rfl)), ?_⟩
  refine i_start (σ' := [some (V.ref x), some y]) rfl ?_
  repeat walk_at "rd"
  exact ⟨x, a.PlaceTaken, rfl, T.e_PlaceTaken.xk, T.n_PlaceTaken_value, .inl ⟨hx, q⟩⟩
theorem mk_PlaceTaken (T : Txt W.K W.mg a) : XMak W 1 "PlaceTaken" a.PlaceTaken 0 ["value"] (spX1 a.PlaceTaken "value") := by
  refine xmak_of T.e_PlaceTaken sc_PlaceTaken_init xk_PlaceTaken (fun vs H Q E ⟨x, y, h, _⟩ => by rw [h]; rfl) fun f cdv A outer s H vs Q E hr h => ?_
  obtain ⟨x, y, rfl, hx, q⟩ := h
  refine ⟨_, (pss_one (ps_xst (pv 0) (pv 1) rfl)), ?_⟩
  refine i_start (σ' := [some (V.ref x), some y]) rfl ?_
  repeat walk_at "rd"
  exact ⟨x, a.PlaceTaken, rfl, T.e_PlaceTaken.xk, T.n_PlaceTaken_value, .inl ⟨hx, q⟩⟩
theorem mx_LastPlace (T : Txt W.K W.mg a) : XMak W 1 "LastPlace" a.LastPlace 1 [] (spX1 a.LastPlace "value") := by
  refine xmak_of T.e_LastPlace sc_LastPlace_init xb_LastPlace (fun vs H Q E ⟨x, y, h, _⟩ => by rw [h]; rfl) fun f cdv A outer s H vs Q E hr h => ?_
  obtain ⟨x, y, rfl, hx, q⟩ := h
  refine ⟨_, (pss_one (ps_xst (pv 0) (pv 1) rfl)), ?_⟩
  refine i_start (σ' := [some (V.ref x), some y]) rfl ?_
  repeat walk_at "rd"
  exact ⟨x, a.LastPlace, rfl, T.e_LastPlace.xk, T.n_LastPlace_value, .inl ⟨hx, q⟩⟩
theorem mk_LastPlace (T : Txt W.K W.mg a) : XMak W 1 "LastPlace" a.LastPlace 0 ["value"] (spX1 a.LastPlace "value") := by
  refine xmak_of T.e_LastPlace sc_LastPlace_init xk_LastPlace (fun vs H Q E ⟨x, y, h, _⟩ => by rw [h]; rfl) fun f cdv A outer s H vs Q E hr h => ?_
  obtain ⟨x, y, rfl, hx, q⟩ := h
  refine ⟨_, (pss_one (ps_xst (pv 0) (pv 1) rfl)), ?_⟩
  refine i_start (σ' := [some (V.ref x), some y]) rfl ?_
  repeat walk_at "rd"
  exact ⟨x, a.LastPlace, rfl, T.e_LastPlace.xk, T.n_LastPlace_value, .inl ⟨hx, q⟩⟩
theorem mx_OtherServers (T : Txt W.K W.mg a) : XMak W 1 "OtherServers" a.OtherServers 2 [] (spX2 a.OtherServers "one" "other") := by
  refine xmak_of T.e_OtherServers sc_OtherServers_init xb_OtherServers (fun vs H Q E ⟨x, y, z, h, _⟩ => by rw [h]; rfl) fun f cdv A outer s H vs Q E hr h => ?_
  obtain ⟨x, y, z, rfl, hx, q⟩ := h
  refine ⟨_, (pss_cons (ps_xst (pv 0) (pv 1) rfl) (pss_one (ps_xst (pv 0) (pv 2) rfl))), ?_⟩
  refine i_start (σ' := [some (V.ref x), some y, some z]) rfl ?_
  repeat walk_at "rd"
  refine ⟨x, a.OtherServers, rfl, T.e_OtherServers.xk, T.n_OtherServers_one, .inl ⟨hx, fun d nd ne => ?_⟩⟩
  repeat walk_at "rd"
  exact ⟨x, a.OtherServers, rfl, T.e_OtherServers.xk, T.n_OtherServers_other, .inr ⟨d, _, by rw [upd_ne (Ne.symm ne), upd_same], upd_same, (by show 1 ≤ 900; decide), q d nd ne⟩⟩
theorem mk_OtherServers (T : Txt W.K W.mg a) : XMak W 1 "OtherServers" a.OtherServers 0 ["other", "one"] (spX2 a.OtherServers "one" "other") := by
  refine xmak_of T.e_OtherServers sc_OtherServers_init xk_OtherServers (fun vs H Q E ⟨x, y, z, h, _⟩ => by rw [h]; rfl) fun f cdv A outer s H vs Q E hr h => ?_
  obtain ⟨x, y, z, rfl, hx, q⟩ := h
  refine ⟨_, (pss_cons (ps_xst (pv 0) (pv 1) rfl) (pss_one (ps_xst (pv 0) (pv 2) rfl))), ?_⟩
  refine i_start (σ' := [some (V.ref x), some y, some z]) rfl ?_
  repeat walk_at "rd"
  refine ⟨x, a.OtherServers, rfl, T.e_OtherServers.xk, T.n_OtherServers_one, .inl ⟨hx, fun d nd ne => ?_⟩⟩
  repeat walk_at "rd"
  exact ⟨x, a.OtherServers, rfl, T.e_OtherServers.xk, T.n_OtherServers_other, .inr ⟨d, _, by rw [upd_ne (Ne.symm ne), upd_same], upd_same, (by show 1 ≤ 900; decide), q d nd ne⟩⟩
theorem mx_OtherYard (T : Txt W.K W.mg a) : XMak W 1 "OtherYard" a.OtherYard 2 [] (spX2 a.OtherYard "one" "other") := by
  refine xmak_of T.e_OtherYard sc_OtherYard_init xb_OtherYard (fun vs H Q E ⟨x, y, z, h, _⟩ => by rw [h]; rfl) fun f cdv A outer s H vs Q E hr h => ?_
  obtain ⟨x, y, z, rfl, hx, q⟩ := h
  refine ⟨_, (pss_cons (ps_xst (pv 0) (pv 1) rfl) (pss_one (ps_xst (pv 0) (pv 2) rfl))), ?_⟩
  refine i_start (σ' := [some (V.ref x), some y, some z]) rfl ?_
  repeat walk_at "rd"
  refine ⟨x, a.OtherYard, rfl, T.e_OtherYard.xk, T.n_OtherYard_one, .inl ⟨hx, fun d nd ne => ?_⟩⟩
  repeat walk_at "rd"
  exact ⟨x, a.OtherYard, rfl, T.e_OtherYard.xk, T.n_OtherYard_other, .inr ⟨d, _, by rw [upd_ne (Ne.symm ne), upd_same], upd_same, (by show 1 ≤ 900; decide), q d nd ne⟩⟩
theorem mk_OtherYard (T : Txt W.K W.mg a) : XMak W 1 "OtherYard" a.OtherYard 0 ["other", "one"] (spX2 a.OtherYard "one" "other") := by
  refine xmak_of T.e_OtherYard sc_OtherYard_init xk_OtherYard (fun vs H Q E ⟨x, y, z, h, _⟩ => by rw [h]; rfl) fun f cdv A outer s H vs Q E hr h => ?_
  obtain ⟨x, y, z, rfl, hx, q⟩ := h
  refine ⟨_, (pss_cons (ps_xst (pv 0) (pv 1) rfl) (pss_one (ps_xst (pv 0) (pv 2) rfl))), ?_⟩
  refine i_start (σ' := [some (V.ref x), some y, some z]) rfl ?_
  repeat walk_at "rd"
  refine ⟨x, a.OtherYard, rfl, T.e_OtherYard.xk, T.n_OtherYard_one, .inl ⟨hx, fun d nd ne => ?_⟩⟩
  repeat walk_at "rd"
  exact ⟨x, a.OtherYard, rfl, T.e_OtherYard.xk, T.n_OtherYard_other, .inr ⟨d, _, by rw [upd_ne (Ne.symm ne), upd_same], upd_same, (by show 1 ≤ 900; decide), q d nd ne⟩⟩
theorem mx_Impossible (T : Txt W.K W.mg a) : XMak W 1 "Impossible" a.Impossible 1 [] (spX1 a.Impossible "position") := by
  refine xmak_of T.e_Impossible sc_Impossible_init xb_Impossible (fun vs H Q E ⟨x, y, h, _⟩ => by rw [h]; rfl) fun f cdv A outer s H vs Q E hr h => ?_
  obtain ⟨x, y, rfl, hx, q⟩ := h
  refine ⟨_, (pss_one (ps_xst (pv 0) (pv 1) rfl)), ?_⟩
  refine i_start (σ' := [some (V.ref x), some y]) rfl ?_
  repeat walk_at "rd"
  exact ⟨x, a.Impossible, rfl, T.e_Impossible.xk, T.n_Impossible_position, .inl ⟨hx, q⟩⟩
theorem mk_Impossible (T : Txt W.K W.mg a) : XMak W 1 "Impossible" a.Impossible 0 ["position"] (spX1 a.Impossible "position") := by
  refine xmak_of T.e_Impossible sc_Impossible_init xk_Impossible (fun vs H Q E ⟨x, y, h, _⟩ => by rw [h]; rfl) fun f cdv A outer s H vs Q E hr h => ?_
  obtain ⟨x, y, rfl, hx, q⟩ := h
  refine ⟨_, (pss_one (ps_xst (pv 0) (pv 1) rfl)), ?_⟩
  refine i_start (σ' := [some (V.ref x), some y]) rfl ?_
  repeat walk_at "rd"
  exact ⟨x, a.Impossible, rfl, T.e_Impossible.xk, T.n_Impossible_position, .inl ⟨hx, q⟩⟩
theorem mx_Overfull (T : Txt W.K W.mg a) : XMak W 1 "Overfull" a.Overfull 1 [] (spX1 a.Overfull "bar") := by
  refine xmak_of T.e_Overfull sc_Overfull_init xb_Overfull (fun vs H Q E ⟨x, y, h, _⟩ => by rw [h]; rfl) fun f cdv A outer s H vs Q E hr h => ?_
  obtain ⟨x, y, rfl, hx, q⟩ := h
  refine ⟨_, (pss_one (ps_xst (pv 0) (pv 1) rfl)), ?_⟩
  refine i_start (σ' := [some (V.ref x), some y]) rfl ?_
  repeat walk_at "rd"
  exact ⟨x, a.Overfull, rfl, T.e_Overfull.xk, T.n_Overfull_bar, .inl ⟨hx, q⟩⟩
theorem mk_Overfull (T : Txt W.K W.mg a) : XMak W 1 "Overfull" a.Overfull 0 ["bar"] (spX1 a.Overfull "bar") := by
  refine xmak_of T.e_Overfull sc_Overfull_init xk_Overfull (fun vs H Q E ⟨x, y, h, _⟩ => by rw [h]; rfl) fun f cdv A outer s H vs Q E hr h => ?_
  obtain ⟨x, y, rfl, hx, q⟩ := h
  refine ⟨_, (pss_one (ps_xst (pv 0) (pv 1) rfl)), ?_⟩
  refine i_start (σ' := [some (V.ref x), some y]) rfl ?_
  repeat walk_at "rd"
  exact ⟨x, a.Overfull, rfl, T.e_Overfull.xk, T.n_Overfull_bar, .inl ⟨hx, q⟩⟩
theorem mx_OutOfSpan (T : Txt W.K W.mg a) : XMak W 1 "OutOfSpan" a.OutOfSpan 1 [] (spX1 a.OutOfSpan "value") := by
  refine xmak_of T.e_OutOfSpan sc_OutOfSpan_init xb_OutOfSpan (fun vs H Q E ⟨x, y, h, _⟩ => by rw [h]; rfl) fun f cdv A outer s H vs Q E hr h => ?_
  obtain ⟨x, y, rfl, hx, q⟩ := h
  refine ⟨_, (pss_one (ps_xst (pv 0) (pv 1) rfl)), ?_⟩
  refine i_start (σ' := [some (V.ref x), some y]) rfl ?_
  repeat walk_at "rd"
  exact ⟨x, a.OutOfSpan, rfl, T.e_OutOfSpan.xk, T.n_OutOfSpan_value, .inl ⟨hx, q⟩⟩
theorem mk_OutOfSpan (T : Txt W.K W.mg a) : XMak W 1 "OutOfSpan" a.OutOfSpan 0 ["value"] (spX1 a.OutOfSpan "value") := by
  refine xmak_of T.e_OutOfSpan sc_OutOfSpan_init xk_OutOfSpan (fun vs H Q E ⟨x, y, h, _⟩ => by rw [h]; rfl) fun f cdv A outer s H vs Q E hr h => ?_
  obtain ⟨x, y, rfl, hx, q⟩ := h
  refine ⟨_, (pss_one (ps_xst (pv 0) (pv 1) rfl)), ?_⟩
  refine i_start (σ' := [some (V.ref x), some y]) rfl ?_
  repeat walk_at "rd"
  exact ⟨x, a.OutOfSpan, rfl, T.e_OutOfSpan.xk, T.n_OutOfSpan_value, .inl ⟨hx, q⟩⟩
theorem mx_NotWhole (T : Txt W.K W.mg a) : XMak W 1 "NotWhole" a.NotWhole 1 [] (spX1 a.NotWhole "value") := by
  refine xmak_of T.e_NotWhole sc_NotWhole_init xb_NotWhole (fun vs H Q E ⟨x, y, h, _⟩ => by rw [h]; rfl) fun f cdv A outer s H vs Q E hr h => ?_
  obtain ⟨x, y, rfl, hx, q⟩ := h
  refine ⟨_, (pss_one (ps_xst (pv 0) (pv 1) rfl)), ?_⟩
  refine i_start (σ' := [some (V.ref x), some y]) rfl ?_
  repeat walk_at "rd"
  exact ⟨x, a.NotWhole, rfl, T.e_NotWhole.xk, T.n_NotWhole_value, .inl ⟨hx, q⟩⟩
theorem mk_NotWhole (T : Txt W.K W.mg a) : XMak W 1 "NotWhole" a.NotWhole 0 ["value"] (spX1 a.NotWhole "value") := by
  refine xmak_of T.e_NotWhole sc_NotWhole_init xk_NotWhole (fun vs H Q E ⟨x, y, h, _⟩ => by rw [h]; rfl) fun f cdv A outer s H vs Q E hr h => ?_
  obtain ⟨x, y, rfl, hx, q⟩ := h
  refine ⟨_, (pss_one (ps_xst (pv 0) (pv 1) rfl)), ?_⟩
  refine i_start (σ' := [some (V.ref x), some y]) rfl ?_
  repeat walk_at "rd"
  exact ⟨x, a.NotWhole, rfl, T.e_NotWhole.xk, T.n_NotWhole_value, .inl ⟨hx, q⟩⟩
theorem mx_NothingToUndo (T : Txt W.K W.mg a) : XMak W 1 "NothingToUndo" a.NothingToUndo 0 [] (spX0 a.NothingToUndo) := by
  refine xmak_of T.e_NothingToUndo sc_NothingToUndo_init xb_NothingToUndo (fun vs H Q E ⟨x, h, _⟩ => by rw [h]; rfl) fun f cdv A outer s H vs Q E hr h => ?_
  obtain ⟨x, rfl, hx, q⟩ := h
  refine ⟨_, (pss_one ps_pass), ?_⟩
  refine i_start (σ' := [some (V.ref x)]) rfl ?_
  repeat walk_at "rd"
  exact q
theorem mx_CommandFailed (T : Txt W.K W.mg a) : XMak W 1 "CommandFailed" a.CommandFailed 1 [] (spX1 a.CommandFailed "position") := by
  refine xmak_of T.e_CommandFailed sc_CommandFailed_init xb_CommandFailed (fun vs H Q E ⟨x, y, h, _⟩ => by rw [h]; rfl) fun f cdv A outer s H vs Q E hr h => ?_
  obtain ⟨x, y, rfl, hx, q⟩ := h
  refine ⟨_, (pss_one (ps_xst (pv 0) (pv 1) rfl)), ?_⟩
  refine i_start (σ' := [some (V.ref x), some y]) rfl ?_
  repeat walk_at "rd"
  exact ⟨x, a.CommandFailed, rfl, T.e_CommandFailed.xk, T.n_CommandFailed_position, .inl ⟨hx, q⟩⟩
theorem mk_CommandFailed (T : Txt W.K W.mg a) : XMak W 1 "CommandFailed" a.CommandFailed 0 ["position"] (spX1 a.CommandFailed "position") := by
  refine xmak_of T.e_CommandFailed sc_CommandFailed_init xk_CommandFailed (fun vs H Q E ⟨x, y, h, _⟩ => by rw [h]; rfl) fun f cdv A outer s H vs Q E hr h => ?_
  obtain ⟨x, y, rfl, hx, q⟩ := h
  refine ⟨_, (pss_one (ps_xst (pv 0) (pv 1) rfl)), ?_⟩
  refine i_start (σ' := [some (V.ref x), some y]) rfl ?_
  repeat walk_at "rd"
  exact ⟨x, a.CommandFailed, rfl, T.e_CommandFailed.xk, T.n_CommandFailed_position, .inl ⟨hx, q⟩⟩
theorem mx_DividedByZero (T : Txt W.K W.mg a) : XMak W 1 "DividedByZero" a.DividedByZero 0 [] (spX0 a.DividedByZero) := by
  refine xmak_of T.e_DividedByZero sc_DividedByZero_init xb_DividedByZero (fun vs H Q E ⟨x, h, _⟩ => by rw [h]; rfl) fun f cdv A outer s H vs Q E hr h => ?_
  obtain ⟨x, rfl, hx, q⟩ := h
  refine ⟨_, (pss_one ps_pass), ?_⟩
  refine i_start (σ' := [some (V.ref x)]) rfl ?_
  repeat walk_at "rd"
  exact q
theorem mx_TooMany (T : Txt W.K W.mg a) : XMak W 1 "TooMany" a.TooMany 2 [] (spX2 a.TooMany "what" "limit") := by
  refine xmak_of T.e_TooMany sc_TooMany_init xb_TooMany (fun vs H Q E ⟨x, y, z, h, _⟩ => by rw [h]; rfl) fun f cdv A outer s H vs Q E hr h => ?_
  obtain ⟨x, y, z, rfl, hx, q⟩ := h
  refine ⟨_, (pss_cons (ps_xst (pv 0) (pv 1) rfl) (pss_one (ps_xst (pv 0) (pv 2) rfl))), ?_⟩
  refine i_start (σ' := [some (V.ref x), some y, some z]) rfl ?_
  repeat walk_at "rd"
  refine ⟨x, a.TooMany, rfl, T.e_TooMany.xk, T.n_TooMany_what, .inl ⟨hx, fun d nd ne => ?_⟩⟩
  repeat walk_at "rd"
  exact ⟨x, a.TooMany, rfl, T.e_TooMany.xk, T.n_TooMany_limit, .inr ⟨d, _, by rw [upd_ne (Ne.symm ne), upd_same], upd_same, (by show 1 ≤ 900; decide), q d nd ne⟩⟩
theorem mk_TooMany (T : Txt W.K W.mg a) : XMak W 1 "TooMany" a.TooMany 0 ["limit", "what"] (spX2 a.TooMany "what" "limit") := by
  refine xmak_of T.e_TooMany sc_TooMany_init xk_TooMany (fun vs H Q E ⟨x, y, z, h, _⟩ => by rw [h]; rfl) fun f cdv A outer s H vs Q E hr h => ?_
  obtain ⟨x, y, z, rfl, hx, q⟩ := h
  refine ⟨_, (pss_cons (ps_xst (pv 0) (pv 1) rfl) (pss_one (ps_xst (pv 0) (pv 2) rfl))), ?_⟩
  refine i_start (σ' := [some (V.ref x), some y, some z]) rfl ?_
  repeat walk_at "rd"
  refine ⟨x, a.TooMany, rfl, T.e_TooMany.xk, T.n_TooMany_what, .inl ⟨hx, fun d nd ne => ?_⟩⟩
  repeat walk_at "rd"
  exact ⟨x, a.TooMany, rfl, T.e_TooMany.xk, T.n_TooMany_limit, .inr ⟨d, _, by rw [upd_ne (Ne.symm ne), upd_same], upd_same, (by show 1 ≤ 900; decide), q d nd ne⟩⟩
end Lw

namespace Ly
open PySem PySem.Spec PyProof.Rows L2
/-- a thing of any kind -/
inductive Th (H : Hp) : V → Prop
  | int (i : Int) (z : Sz 200 i) : Th H (.int i)
  | bl (b : Bool) : Th H (.bl b)
  | non : Th H .non
  | str (s : Str) (l : s.length ≤ 10) : Th H (.str s)
  | lst (a : Addr) (xs : List V) (e : H a = some (.lst xs)) : Th H (.ref a)
  | tup (a : Addr) (xs : List V) (e : H a = some (.tup xs)) : Th H (.ref a)
  | dct (a : Addr) (xs : List (Key × V)) (e : H a = some (.dK xs)) : Th H (.ref a)
theorem Th.same {H H' : Hp} {v : V} (s : Same H H') (t : Th H v) : Th H' v := by
  cases t with
  | int i z => exact .int i z
  | bl b => exact .bl b
  | non => exact .non
  | str x l => exact .str x l
  | lst a xs e => exact .lst a xs (s _ _ e)
  | tup a xs e => exact .tup a xs (s _ _ e)
  | dct a xs e => exact .dct a xs (s _ _ e)
theorem Th.okS {H : Hp} {v : V} (t : Th H v) : okS v = true := by
  cases t <;> rfl
def isIntV : V → Bool
  | .int _ => true
  | _ => false
def isCountV : V → Bool
  | .int i => decide (i ≥ 0)
  | _ => false
def letB (c : Nat) : Bool := decide (97 ≤ c ∧ c ≤ 122)
def nameB (s : Str) : Bool := (decide (1 ≤ (s.length : Int)) && decide ((s.length : Int) ≤ 8)) && (s.cps.toList.map letB).all id
theorem map_all {f g : Nat → Bool} (h : ∀ c, f c = g c) : ∀ xs : List Nat, (xs.map f).all id = xs.all g
  | [] => rfl
  | x :: xs => by
    show (f x && (xs.map f).all id) = (g x && xs.all g)
    rw [h x, map_all h xs]
theorem letB_eq (c : Nat) : letB c = lowB c := by
  unfold letB lowB
  by_cases h : 97 ≤ c <;> by_cases g : c ≤ 122 <;> simp [h, g]
theorem name_eq (x : Str) : nameB x = (decide ((x.length : Int) ≤ 8) && (decide (1 ≤ x.length) && x.cps.toList.all lowB)) := by
  unfold nameB
  rw [map_all letB_eq, show decide (1 ≤ (x.length : Int)) = decide (1 ≤ x.length) by rw [Bool.eq_iff_iff, decide_eq_true_eq, decide_eq_true_eq]; omega]
  cases decide ((x.length : Int) ≤ 8) <;> cases decide (1 ≤ x.length) <;> rfl
def isNameV : V → Bool
  | .str s => nameB s
  | _ => false
def spKind (f : V → Bool) : Sp := fun vs H Q _ => ∃ v, vs = [v] ∧ Th H v ∧ ∀ H', Same H H' → Q (.bl (f v)) H'
theorem i_kind {f : V → Bool} {H : Hp} {Q : VK} {E : XK} {v : V} (t : Th H v) (q : ∀ H', Same H H' → Q (.bl (f v)) H') : spKind f [v] H Q E := ⟨v, rfl, t, q⟩
def isBlV : V → Bool
  | .bl _ => true
  | _ => false
def isStrV : V → Bool
  | .str _ => true
  | _ => false
theorem Th.ty {K : PySem.W.Frag} {H : Hp} {v : V} (t : Th H v) : ∃ T : String, TyX K H v (.type T) ∧ kitB T "int" = some (isIntV v || isBlV v) ∧ kitB T "bool" = some (isBlV v) ∧ kitB T "str" = some (isStrV v) := by
  cases t with
  | int i z => exact ⟨"int", .base (.int i), (by show kitB "int" "int" = some true; decide +kernel), (by show kitB "int" "bool" = some false; decide +kernel), (by show kitB "int" "str" = some false; decide +kernel)⟩
  | bl b => exact ⟨"bool", .base (.bl b), (by show kitB "bool" "int" = some true; decide +kernel), (by show kitB "bool" "bool" = some true; decide +kernel), (by show kitB "bool" "str" = some false; decide +kernel)⟩
  | non => exact ⟨"NoneType", .base .non, (by show kitB "NoneType" "int" = some false; decide +kernel), (by show kitB "NoneType" "bool" = some false; decide +kernel), (by show kitB "NoneType" "str" = some false; decide +kernel)⟩
  | str x l => exact ⟨"str", .base (.str x), (by show kitB "str" "int" = some false; decide +kernel), (by show kitB "str" "bool" = some false; decide +kernel), (by show kitB "str" "str" = some true; decide +kernel)⟩
  | lst a xs e => exact ⟨"list", .base (.lst e), (by show kitB "list" "int" = some false; decide +kernel), (by show kitB "list" "bool" = some false; decide +kernel), (by show kitB "list" "str" = some false; decide +kernel)⟩
  | tup a xs e => exact ⟨"tuple", .base (.tup e), (by show kitB "tuple" "int" = some false; decide +kernel), (by show kitB "tuple" "bool" = some false; decide +kernel), (by show kitB "tuple" "str" = some false; decide +kernel)⟩
  | dct a xs e => exact ⟨"dict", .base (.dK e), (by show kitB "dict" "int" = some false; decide +kernel), (by show kitB "dict" "bool" = some false; decide +kernel), (by show kitB "dict" "str" = some false; decide +kernel)⟩
theorem i_itB {b : Bool} {A B : Prop} (h1 : b = true → A) (h2 : b = false → B) : if b = true then A else B := by
  cases b with
  | true => exact iteT (h1 rfl)
  | false => exact iteF (h2 rfl)
theorem a_cps : ("a" : Str).cps.toList = [97] := by decide +kernel
theorem z_cps : ("z" : Str).cps.toList = [122] := by decide +kernel
theorem lt_one {a b : Nat} : decide (([a] : List Nat) < [b]) = decide (a < b) := by
  have : ([a] : List Nat) < [b] ↔ a < b := by
    rw [List.cons_lt_cons_iff]
    constructor
    · rintro (h | ⟨_, h⟩)
      · exact h
      · cases h
    · exact fun h => .inl h
  by_cases h : a < b
  · rw [decide_eq_true (this.mpr h), decide_eq_true h]
  · rw [decide_eq_false (fun z => h (this.mp z)), decide_eq_false h]
section
variable {σ : L2.St} {H : Hp} {Q : VK} {ta tb tc : TE} {r r' : R2} {x y : V}
def rChain (r' : R2) (tc : TE) (σ : L2.St) (y : V) (Q : VK) : VK := fun v H3 => ∃ k, v = .bl k ∧ if k = true then tc σ H3 fun z H4 => r' y z H4 Q else Q (.bl false) H3
theorem i_chain (q : ta σ H fun x H1 => tb σ H1 fun y H2 => r x y H2 (rChain r' tc σ y Q)) : tChain r r' ta tb tc σ H Q := q
theorem i_rchain {b : Bool} (h : b = true → tc σ H fun z H4 => r' y z H4 Q) (g : b = false → Q (.bl false) H) : rChain r' tc σ y Q (.bl b) H := ⟨b, rfl, i_itB h g⟩
theorem i_leI {i j : Int} {r : R2} (q : Q (.bl (decide (i ≤ j))) H) : rOr (rI0 fun i j => .bl (decide (i ≤ j))) r (.int i) (.int j) H Q := .inl ⟨i, j, rfl, rfl, q⟩
end
def rLeS : R2 := fun x y H Q => ∃ i j, x = .str i ∧ y = .str j ∧ Q (.bl (!decide (j.cps.toList < i.cps.toList))) H
theorem op_leS {X : Cx} : OpR X (compareOp .LtE) rLeS := op_le_str
theorem i_leS {x y : Str} {H : Hp} {Q : VK} {r : R2} (q : Q (.bl (!decide (y.cps.toList < x.cps.toList))) H) : rOr r rLeS (.str x) (.str y) H Q := .inr ⟨x, y, rfl, rfl, q⟩
end Ly
namespace Lw
open PySem PySem.Spec PyProof.Rows L2 Ly
local macro_rules | `(tactic| walk_at "rd") => `(tactic| first
  | ((with_reducible refine' i_var ?hv ?_); (case hv => exact rfl))
  | with_reducible refine i_c ?_
  | with_reducible refine i_op ?_
  | with_reducible refine i_cons ?_
  | with_reducible refine i_nil ?_
  | with_reducible refine i_cb ?_
  | with_reducible refine i_call ?_
  | with_reducible refine i_I0 ?_
  | with_reducible refine i_add_i ?_
  | with_reducible refine i_sub_i ?_
  | with_reducible refine i_md_i (by first | decide | assumption) ?_
  | ((with_reducible refine' i_md_i ?c ?_); rotate_left)
  | ((with_reducible refine' i_mul_i ?c ?_); rotate_left)
  | with_reducible refine i_fd_i (by decide) ?_
  | ((with_reducible refine' i_fd_i ?c ?_); rotate_left)
  | with_reducible refine i_int ?_
  | with_reducible refine i_abs ?_
  | with_reducible refine i_max2 ?_
  | with_reducible refine i_min2 ?_
  | with_reducible refine i_gcd ?_
  | with_reducible refine i_seq ?_
  | with_reducible refine i_if ?_
  | with_reducible refine i_asg ?_
  | with_reducible refine i_ret ?_
  | with_reducible refine i_drop ?_
  | with_reducible refine i_next ?_
  | with_reducible refine i_un ?_
  | with_reducible refine i_U ?_
  | ((with_reducible refine i_gname ?_); dsimp only [List.set])
  | with_reducible refine i_test ?_
  | with_reducible refine i_not ?_
  | with_reducible refine i_or ?_
  | with_reducible refine i_and ?_
  | with_reducible refine i_tb ?_
  | with_reducible refine i_andV ?_
  | with_reducible refine i_orV ?_
  | with_reducible refine i_notV ?_
  | with_reducible refine i_ifx ?_
  | with_reducible refine i_ext ?_
  | with_reducible refine i_exf ?_
  | with_reducible refine i_exn ?_
  | with_reducible refine i_itt ?_
  | with_reducible refine i_itf ?_
  | with_reducible refine i_gsub ?_
  | with_reducible refine i_nt ?_
  | with_reducible refine i_tup ?_
  | with_reducible refine i_lst ?_
  | with_reducible refine i_nf ?_
  | with_reducible refine i_isint ?_
  | ((with_reducible refine' i_top ?r ?_); (case r => walk_at "hp"))
  | ((with_reducible refine' i_bot ?r ?_); (case r => walk_at "hp"))
  | with_reducible refine i_fld ?_
  | with_reducible refine i_sfld ?_
  | with_reducible refine i_pp ?_
  | with_reducible refine i_meth ?_
  | with_reducible refine i_smeth ?_
  | with_reducible refine i_make ?_
  | with_reducible refine i_sl ?_
  | with_reducible refine i_noPart ?_
  | with_reducible refine i_part ?_
  | with_reducible refine i_smethK ?_
  | with_reducible refine i_sk1 ?_
  | with_reducible refine i_makeK ?_
  | with_reducible refine i_methK ?_
  | with_reducible refine i_mk11 ?_
  | ((with_reducible refine' i_rmk ?r ?h1 ?h2 ?_); (case r => walk_at "hp"); (case h1 => decide +kernel); (case h2 => decide +kernel))
  | with_reducible refine i_tpar ?_
  | ((with_reducible refine i_rpar ?_); dsimp only [List.set])
  | with_reducible refine i_eq_s rfl ?_
  | with_reducible refine i_ne_s rfl ?_
  | ((with_reducible refine' i_rtop ?r ?c ?n ?_); (case r => walk_at "hp"); (case c => assumption); (case n => assumption))
  | ((with_reducible refine' i_rbot ?r ?c ?n ?_); (case r => walk_at "hp"); (case c => assumption); (case n => assumption))
  | ((with_reducible refine' i_rpp ?r ?_); (case r => walk_at "hp"))
  | ((with_reducible refine' i_rmeth ?r ?h1 ?h2 ?_); (case r => walk_at "hp"); (case h1 => decide +kernel); (case h2 => decide +kernel))
  | ((with_reducible refine' i_ix_l ?hp ?ha ?_); (case hp => walk_at "hp"); (case ha => exact rfl))
  | ((with_reducible refine' i_len_l ?hp ?_); (case hp => walk_at "hp"))
  | ((with_reducible refine' i_ix_f0 ?hp ?_); (case hp => walk_at "hp"))
  | ((with_reducible refine' i_ix_f1 ?hp ?_); (case hp => walk_at "hp"))
  | ((with_reducible refine' i_ix_t ?hp ?ha ?_); (case hp => walk_at "hp"); (case ha => exact rfl)))
local macro_rules | `(tactic| walk_at "hp") => `(tactic| first
  | assumption
  | exact upd_same
  | exact SqL.of (by assumption)
  | (refine' Dr.tup (by assumption) ?hq; (case hq => walk_at "hp"))
  | (refine' FrL.same (by assumption) ?hq; (case hq => walk_at "hp"))
  | (refine' FracAt.same (by assumption) ?hq; (case hq => walk_at "hp"))
  | (refine' FracAt.nl (by assumption) ?hq; (case hq => walk_at "hp"))
  | (refine' RatAt.nl (by assumption) ?hq; (case hq => walk_at "hp"))
  | (refine' Num.nl (by assumption) ?hq; (case hq => walk_at "hp"))
  | (refine' FracAt.pk (by assumption) ?hq; (case hq => walk_at "hp"))
  | (refine' RatAt.pk (by assumption) ?hq; (case hq => walk_at "hp"))
  | (refine' Num.pk (by assumption) ?hq; (case hq => walk_at "hp"))
  | (refine' Dr.keep (by assumption) _ _ (by assumption) ?hq; (case hq => walk_at "hp"))
  | (refine' (show Same _ _ by assumption) _ _ ?hq; (case hq => walk_at "hp"))
  | (refine' RatAt.same (by assumption) ?hq; (case hq => walk_at "hp"))
  | (refine' Num.same (by assumption) ?hq; (case hq => walk_at "hp")))
local macro_rules | `(tactic| walk_at "sm") => `(tactic| first
  | assumption
  | exact Same.refl _
  | (refine' Same.kl (by assumption) (by assumption) ?aa; (case aa => walk_at "sm"))
  | (refine' Same.trans ?aa (by assumption); (case aa => walk_at "sm")))
local macro_rules | `(tactic| walk_at "dr") => `(tactic| first
  | assumption
  | (refine' Dr.same ?aa (by assumption); (case aa => walk_at "dr"))
  | (refine' Dr.trans ?aa (by assumption); (case aa => walk_at "dr")))

variable {W : Wd} {a : Ad}
theorem b_is_integer (T : Txt W.K W.mg a) : Cl W 1 "is_integer" (spKind isIntV) ∧ ClK W 1 "is_integer" ["value"] (spKind isIntV) := by
  refine cl_both T.d_is_integer sc_is_integer bd_is_integer (fun _ _ _ _ _ _ us ws l1 l2 => match us, ws, l1, l2 with | [], [_], _, _ => rfl) (fun vs H Q E ⟨v, h, _⟩ => by rw [h]; rfl) fun f cdv A outer s H vs Q E hr h => ?_
  obtain ⟨v, rfl, t, q⟩ := h
  obtain ⟨tn, ty, k1, k2, k3⟩ := t.ty (K := W.K)
  refine ⟨_, (pss_one (ps_ret (pe_and (pe_callB (r := rIsi W.K) call_isi (by rfl) T.b_isinstance (by decide +kernel) (pa_cons (pv 0) (pa_cons (pe_bltn (by rfl) T.b_int (by decide +kernel) (v := .ty "int") rfl) pa_nil))) (pe_one (pe_not (pe_callB (r := rIsi W.K) call_isi (by rfl) T.b_isinstance (by decide +kernel) (pa_cons (pv 0) (pa_cons (pe_bltn (by rfl) T.b_bool (by decide +kernel) (v := .ty "bool") rfl) pa_nil)))))))), ?_⟩
  refine i_start (σ' := [some v]) rfl ?_
  repeat walk_at "rd"
  refine i_isi ty k1 ?_
  cases t <;> simp only [isIntV, isBlV, Bool.or_true, Bool.or_false, Bool.false_eq_true, if_true, if_false] <;> (repeat walk_at "rd") <;> first | exact q H (Same.refl _) | (refine i_isi ty k2 ?_; repeat walk_at "rd"; exact q H (Same.refl _))
theorem k_is_integer (T : Txt W.K W.mg a) : Cl W 1 "is_integer" (spKind isIntV) := (b_is_integer T).1
theorem kk_is_integer (T : Txt W.K W.mg a) : ClK W 1 "is_integer" ["value"] (spKind isIntV) := (b_is_integer T).2
theorem b_is_count (T : Txt W.K W.mg a) : Cl W 2 "is_count" (spKind isCountV) ∧ ClK W 2 "is_count" ["value"] (spKind isCountV) := by
  refine cl_both T.d_is_count sc_is_count bd_is_count (fun _ _ _ _ _ _ us ws l1 l2 => match us, ws, l1, l2 with | [], [_], _, _ => rfl) (fun vs H Q E ⟨v, h, _⟩ => by rw [h]; rfl) fun f cdv A outer s H vs Q E hr h => ?_
  obtain ⟨v, rfl, t, q⟩ := h
  refine ⟨_, (pss_one (ps_ret (pe_and (pe_cl (k_is_integer T) hr (by decide) rfl (pa_cons (pv 0) pa_nil)) (pe_one (pe_cmpR op_ge (pv 0) pe_int (nomark _)))))), ?_⟩
  refine i_start (σ' := [some v]) rfl ?_
  repeat walk_at "rd"
  refine i_kind t fun H1 s1 => ?_
  cases t <;> dsimp only [isIntV] <;> (repeat walk_at "rd") <;> exact q H1 s1
theorem k_is_count (T : Txt W.K W.mg a) : Cl W 2 "is_count" (spKind isCountV) := (b_is_count T).1
theorem kk_is_count (T : Txt W.K W.mg a) : ClK W 2 "is_count" ["value"] (spKind isCountV) := (b_is_count T).2
theorem b_is_name (T : Txt W.K W.mg a) : Cl W 1 "is_name" (spKind isNameV) ∧ ClK W 1 "is_name" ["value"] (spKind isNameV) := by
  refine cl_both T.d_is_name sc_is_name bd_is_name (fun _ _ _ _ _ _ us ws l1 l2 => match us, ws, l1, l2 with | [], [_], _, _ => rfl) (fun vs H Q E ⟨v, h, _⟩ => by rw [h]; rfl) fun f cdv A outer s H vs Q E hr h => ?_
  obtain ⟨v, rfl, t, q⟩ := h
  obtain ⟨tn, ty, k1, k2, k3⟩ := t.ty (K := W.K)
  refine ⟨_, (pss_one (ps_ret (pe_and (pe_callB (r := rIsi W.K) call_isi (by rfl) T.b_isinstance (by decide +kernel) (pa_cons (pv 0) (pa_cons (pe_bltn (by rfl) T.b_str (by decide +kernel) (v := .ty "str") rfl) pa_nil))) (pe_and (pe_cmpR op_le (pe_callB (r := Ly.rLen W.K) call_lenU (by rfl) T.b_len (by decide +kernel) (pa_cons (pv 0) pa_nil)) pe_int (nomark _)) (pe_and (pe_bm0 PySem.F.plainAttrs_str PySem.F.slot_str_isascii PySem.F.type_str_isascii mt_isascii (pv 0)) (pe_and (pe_bm0 PySem.F.plainAttrs_str PySem.F.slot_str_isalpha PySem.F.type_str_isalpha mt_isalpha (pv 0)) (pe_one (pe_bm0 PySem.F.plainAttrs_str PySem.F.slot_str_islower PySem.F.type_str_islower mt_islower (pv 0))))))))), ?_⟩
  refine i_start (σ' := [some v]) rfl ?_
  repeat walk_at "rd"
  refine i_isi ty k3 ?_
  cases t with
  | str x l =>
    dsimp only [isStrV]
    repeat walk_at "rd"
    refine i_len_s (sl_of (by omega)) ?_
    refine i_c ?_
    refine i_I0 ⟨_, rfl, i_itB (fun h1 => ?_) (fun h1 => ?_)⟩
    · refine i_name rfl ?_
      have z := q H (Same.refl _)
      rw [show isNameV (V.str x) = nameB x from rfl, name_eq, h1] at z
      exact z
    · have z := q H (Same.refl _)
      rw [show isNameV (V.str x) = nameB x from rfl, name_eq, h1] at z
      exact z
  | _ =>
    dsimp only [isStrV]
    repeat walk_at "rd"
    exact q H (Same.refl _)
theorem k_is_name (T : Txt W.K W.mg a) : Cl W 1 "is_name" (spKind isNameV) := (b_is_name T).1
theorem kk_is_name (T : Txt W.K W.mg a) : ClK W 1 "is_name" ["value"] (spKind isNameV) := (b_is_name T).2
end Lw

namespace Lw
open PySem PySem.Spec PyProof.Rows L2 Ly
local macro_rules | `(tactic| walk_at "rd") => `(tactic| first
  | ((with_reducible refine' i_var ?hv ?_); (case hv => exact rfl))
  | with_reducible refine i_c ?_
  | with_reducible refine i_op ?_
  | with_reducible refine i_cons ?_
  | with_reducible refine i_nil ?_
  | with_reducible refine i_cb ?_
  | with_reducible refine i_call ?_
  | with_reducible refine i_I0 ?_
  | with_reducible refine i_add_i ?_
  | with_reducible refine i_sub_i ?_
  | with_reducible refine i_md_i (by first | decide | assumption) ?_
  | ((with_reducible refine' i_md_i ?c ?_); rotate_left)
  | ((with_reducible refine' i_mul_i ?c ?_); rotate_left)
  | with_reducible refine i_fd_i (by decide) ?_
  | ((with_reducible refine' i_fd_i ?c ?_); rotate_left)
  | with_reducible refine i_int ?_
  | with_reducible refine i_abs ?_
  | with_reducible refine i_max2 ?_
  | with_reducible refine i_min2 ?_
  | with_reducible refine i_gcd ?_
  | with_reducible refine i_seq ?_
  | with_reducible refine i_if ?_
  | with_reducible refine i_asg ?_
  | with_reducible refine i_ret ?_
  | with_reducible refine i_drop ?_
  | with_reducible refine i_next ?_
  | with_reducible refine i_un ?_
  | with_reducible refine i_U ?_
  | ((with_reducible refine i_gname ?_); dsimp only [List.set])
  | with_reducible refine i_test ?_
  | with_reducible refine i_not ?_
  | with_reducible refine i_or ?_
  | with_reducible refine i_and ?_
  | with_reducible refine i_tb ?_
  | with_reducible refine i_andV ?_
  | with_reducible refine i_orV ?_
  | with_reducible refine i_notV ?_
  | with_reducible refine i_ifx ?_
  | with_reducible refine i_ext ?_
  | with_reducible refine i_exf ?_
  | with_reducible refine i_exn ?_
  | with_reducible refine i_itt ?_
  | with_reducible refine i_itf ?_
  | with_reducible refine i_gsub ?_
  | with_reducible refine i_nt ?_
  | with_reducible refine i_tup ?_
  | with_reducible refine i_lst ?_
  | with_reducible refine i_nf ?_
  | with_reducible refine i_isint ?_
  | ((with_reducible refine' i_top ?r ?_); (case r => walk_at "hp"))
  | ((with_reducible refine' i_bot ?r ?_); (case r => walk_at "hp"))
  | with_reducible refine i_fld ?_
  | with_reducible refine i_sfld ?_
  | with_reducible refine i_pp ?_
  | with_reducible refine i_meth ?_
  | with_reducible refine i_smeth ?_
  | with_reducible refine i_make ?_
  | with_reducible refine i_sl ?_
  | with_reducible refine i_noPart ?_
  | with_reducible refine i_part ?_
  | with_reducible refine i_smethK ?_
  | with_reducible refine i_sk1 ?_
  | with_reducible refine i_makeK ?_
  | with_reducible refine i_methK ?_
  | with_reducible refine i_mk11 ?_
  | ((with_reducible refine' i_rmk ?r ?h1 ?h2 ?_); (case r => walk_at "hp"); (case h1 => decide +kernel); (case h2 => decide +kernel))
  | with_reducible refine i_tpar ?_
  | ((with_reducible refine i_rpar ?_); dsimp only [List.set])
  | with_reducible refine i_eq_s rfl ?_
  | with_reducible refine i_ne_s rfl ?_
  | ((with_reducible refine' i_rtop ?r ?c ?n ?_); (case r => walk_at "hp"); (case c => assumption); (case n => assumption))
  | ((with_reducible refine' i_rbot ?r ?c ?n ?_); (case r => walk_at "hp"); (case c => assumption); (case n => assumption))
  | ((with_reducible refine' i_rpp ?r ?_); (case r => walk_at "hp"))
  | ((with_reducible refine' i_rmeth ?r ?h1 ?h2 ?_); (case r => walk_at "hp"); (case h1 => decide +kernel); (case h2 => decide +kernel))
  | ((with_reducible refine' i_ix_l ?hp ?ha ?_); (case hp => walk_at "hp"); (case ha => exact rfl))
  | ((with_reducible refine' i_len_l ?hp ?_); (case hp => walk_at "hp"))
  | ((with_reducible refine' i_ix_f0 ?hp ?_); (case hp => walk_at "hp"))
  | ((with_reducible refine' i_ix_f1 ?hp ?_); (case hp => walk_at "hp"))
  | ((with_reducible refine' i_ix_t ?hp ?ha ?_); (case hp => walk_at "hp"); (case ha => exact rfl)))
local macro_rules | `(tactic| walk_at "hp") => `(tactic| first
  | assumption
  | exact upd_same
  | exact SqL.of (by assumption)
  | (refine' Dr.tup (by assumption) ?hq; (case hq => walk_at "hp"))
  | (refine' FrL.same (by assumption) ?hq; (case hq => walk_at "hp"))
  | (refine' FracAt.same (by assumption) ?hq; (case hq => walk_at "hp"))
  | (refine' FracAt.nl (by assumption) ?hq; (case hq => walk_at "hp"))
  | (refine' RatAt.nl (by assumption) ?hq; (case hq => walk_at "hp"))
  | (refine' Num.nl (by assumption) ?hq; (case hq => walk_at "hp"))
  | (refine' FracAt.pk (by assumption) ?hq; (case hq => walk_at "hp"))
  | (refine' RatAt.pk (by assumption) ?hq; (case hq => walk_at "hp"))
  | (refine' Num.pk (by assumption) ?hq; (case hq => walk_at "hp"))
  | (refine' Dr.keep (by assumption) _ _ (by assumption) ?hq; (case hq => walk_at "hp"))
  | (refine' (show Same _ _ by assumption) _ _ ?hq; (case hq => walk_at "hp"))
  | (refine' RatAt.same (by assumption) ?hq; (case hq => walk_at "hp"))
  | (refine' Num.same (by assumption) ?hq; (case hq => walk_at "hp")))
local macro_rules | `(tactic| walk_at "sm") => `(tactic| first
  | assumption
  | exact Same.refl _
  | (refine' Same.kl (by assumption) (by assumption) ?aa; (case aa => walk_at "sm"))
  | (refine' Same.trans ?aa (by assumption); (case aa => walk_at "sm")))
local macro_rules | `(tactic| walk_at "dr") => `(tactic| first
  | assumption
  | (refine' Dr.same ?aa (by assumption); (case aa => walk_at "dr"))
  | (refine' Dr.trans ?aa (by assumption); (case aa => walk_at "dr")))

variable {W : Wd} {a : Ad}
theorem k_law_draw (T : Txt W.K W.mg a) : Cl W 1 "_law_draw" spDraw := by
  refine cl_of' T.d_law_draw sc_law_draw bd_law_draw (fun vs H Q E ⟨p, n, h, _⟩ => by rw [h]; rfl) fun f cdv A outer s H vs Q E hr h => ?_
  obtain ⟨p, n, rfl, hpot, hn, hz, q⟩ := h
  obtain ⟨a0, b0, hp, ok⟩ := _root_.id hpot
  refine ⟨_, (pss_cons (ps_if (pt_cmpR op_gt (pe_ix (r := rIx W.K) ix_U (pv 0) pe_int (fun _ _ => rfl)) pe_int (nomark _)) (pss_cons (ps_asg (pe_callB call_divmodU (by rfl) T.b_divmod (by decide +kernel) (pa_cons (pe_ix (r := rIx W.K) ix_U (pv 0) pe_int (fun _ _ => rfl)) (pa_cons (pv 1) pa_nil))) (pg_tup rfl (pgs_cons (pg_sub (pv 0) pe_int set_list) (pgs_cons (pg_name (i := 2) sc_law_draw.nd rfl (Or.inl rfl)) pgs_nil)))) (pss_one (ps_ret (pv 2)))) pss_nil) (pss_cons (ps_asg (pe_op op_modU (pe_callTy call_int1U (by rfl) T.b_int (by decide +kernel) (pa_cons (pe_op op_addU (pe_op op_mulU (pe_ix (r := rIx W.K) ix_U (pv 0) pe_int (fun _ _ => rfl)) pe_int) pe_int) pa_nil)) pe_int) (pg_sub (pv 0) pe_int set_list)) (pss_one (ps_ret (pe_op op_modU (pe_callTy call_int1U (by rfl) T.b_int (by decide +kernel) (pa_cons (pe_op op_fdivU (pe_op op_modU (pe_callTy call_int1U (by rfl) T.b_int (by decide +kernel) (pa_cons (pe_op op_mulU (pe_ix (r := rIx W.K) ix_U (pv 0) pe_int (fun _ _ => rfl)) (pe_ix (r := rIx W.K) ix_U (pv 0) pe_int (fun _ _ => rfl))) pa_nil)) pe_int) pe_int) pa_nil)) (pv 1)))))), ?_⟩
  refine i_start (σ' := [some (V.ref p), some (V.int n), none]) rfl ?_
  repeat walk_at "rd"
  refine i_dec (fun h0 => ?_) (fun h0 => ?_)
  · repeat walk_at "rd"
    refine i_dm (cdivp hn hz) fun t H1 nt ht s1 => ?_
    refine ⟨t, _, rfl, SqT.of ht, rfl, _, _, rfl, ?_⟩
    repeat walk_at "rd"
    refine ⟨p, _, _, 0, rfl, rfl, s1 _ _ hp, rfl, _, _, rfl, ?_⟩
    repeat walk_at "rd"
    refine ⟨rfl, ?_⟩
    repeat walk_at "rd"
    refine q _ _ (Int.emod_nonneg _ (by omega)) (Int.emod_lt_of_pos _ hn) ⟨fun c o hc e => ?_, hpot, a0 / n, b0, upd_same, Int.ediv_nonneg ok.ha (by omega), ok.hb, ok.hc⟩
    rw [upd_ne hc]
    exact s1 _ _ e
  · repeat walk_at "rd"
    refine ⟨p, _, _, 1, rfl, rfl, hp, rfl, ?_⟩
    have hm := Int.emod_lt_of_pos (b0 * 48271 + 12161) (show (0 : Int) < 2147483587 by decide)
    have hm0 := Int.emod_nonneg (b0 * 48271 + 12161) (show (2147483587 : Int) ≠ 0 by decide)
    have ok2 : PotOk a0 ((b0 * 48271 + 12161) % 2147483587) := ⟨ok.ha, hm0, by omega⟩
    have hp2 : upd H p (HO.lst ([V.int a0, V.int b0].set 1 (V.int ((b0 * 48271 + 12161) % 2147483587)))) p = some (HO.lst [V.int a0, V.int ((b0 * 48271 + 12161) % 2147483587)]) := upd_same
    repeat walk_at "rd"
    · refine q _ _ (Int.emod_nonneg _ (by omega)) (Int.emod_lt_of_pos _ hn) ⟨fun c o hc e => ?_, hpot, _, _, hp2, ok2⟩
      rw [upd_ne hc]
      exact e
    · exact wide_mul (a := 31) (b := 16) (by have := ok.hb; have := ok.hc; omega) (by decide) (by decide) (by decide) (by decide)
    · exact wide_mul (a := 31) (b := 31) (by have := ok2.hb; have := ok2.hc; omega) (by have := ok2.hb; have := ok2.hc; omega) (by decide) (by decide) (by decide)
    · exact wide_div (b := 4) (by decide) (by decide) (by decide) (by decide)
theorem k_law_pick (T : Txt W.K W.mg a) : Cl W 2 "_law_pick" spPick := by
  refine cl_of' T.d_law_pick sc_law_pick bd_law_pick (fun vs H Q E ⟨p, s, xs, h, _⟩ => by rw [h]; rfl) fun f cdv A outer s0 H vs Q E hr h => ?_
  obtain ⟨p, s, xs, rfl, hpot, hs, e, n, l, q⟩ := h
  have hpos : 0 < xs.length := List.length_pos_iff.mpr n
  refine ⟨_, (pss_one (ps_ret (pe_ix (r := rIx W.K) ix_U (pv 1) (pe_cl (k_law_draw T) hr (by decide) rfl (pa_cons (pv 0) (pa_cons (pe_callB (r := Ly.rLen W.K) call_lenU (by rfl) T.b_len (by decide +kernel) (pa_cons (pv 1) pa_nil)) pa_nil))) (fun _ _ => rfl)))), ?_⟩
  refine i_start (σ' := [some (V.ref p), some (V.ref s)]) rfl ?_
  repeat walk_at "rd"
  refine i_draw hpot (by omega) ?_ fun d H1 d0 d1 k => ?_
  · show ((xs.length : Int)).natAbs < 2 ^ 4000
    have : 2 ^ 10 ≤ 2 ^ 4000 := Nat.pow_le_pow_right (by decide) (by decide)
    omega
  have hlt : d.toNat < xs.length := by omega
  refine i_ix_l (xs := xs) (v := xs[d.toNat]) (k.keep _ _ hs e) ?_ ?_
  · have z := atI_nat (xs := xs) (j := d.toNat) (v := xs[d.toNat]) (by simp [hlt])
    rw [show ((d.toNat : Nat) : Int) = d by omega] at z
    exact z
  · exact q _ H1 (List.getElem_mem hlt) k
theorem k_law_pot (T : Txt W.K W.mg a) : Cl W 1 "_law_pot" (spPot W.K) := by
  refine cl_of' T.d_law_pot sc_law_pot bd_law_pot (fun vs H Q E ⟨s, ns, k, h, _⟩ => by rw [h]; rfl) fun f cdv A outer s0 H vs Q E hr h => ?_
  obtain ⟨s, ns, k, rfl, hs, k0, k1, q⟩ := h
  refine ⟨_, (pss_cons (ps_set (i := 2) sc_law_pot.nd rfl (Or.inl rfl) (pe_op op_addU (pe_op op_mulU pe_int (pv 1)) pe_int)) (pss_cons (ps_if (pt_cmpR op_lt (pv 1) (pe_callB (r := Ly.rLen W.K) call_lenU (by rfl) T.b_len (by decide +kernel) (pa_cons (pv 0) pa_nil)) (nomark _)) (pss_one (ps_set (i := 2) sc_law_pot.nd rfl (Or.inl rfl) (pe_callB call_absU (by rfl) T.b_abs (by decide +kernel) (pa_cons (pe_ix (r := rIx W.K) ix_U (pv 0) (pv 1) (fun _ _ => rfl)) pa_nil)))) pss_nil) (pss_one (ps_ret (pe_lst (pa_cons (pe_callB (call_max2U rfl) (by rfl) T.b_max (by decide +kernel) (pa_cons pe_int (pa_cons (pe_op op_subU (pv 2) (pe_op op_pow pe_int pe_int)) pa_nil))) (pa_cons (pe_op op_addU (pe_op op_modU (pe_op op_mulU (pe_callTy call_int1U (by rfl) T.b_int (by decide +kernel) (pa_cons (pe_op op_addU (pe_op op_modU (pe_callTy call_int1U (by rfl) T.b_int (by decide +kernel) (pa_cons (pv 2) pa_nil)) pe_int) pe_int) pa_nil)) (pe_op op_pow (pe_op op_addU (pe_op op_mulU pe_int (pv 1)) pe_int) pe_int)) pe_int) pe_int) pa_nil))))))), ?_⟩
  refine i_start (σ' := [some (V.ref s), some (V.int k), none]) rfl ?_
  have fin : ∀ c : Int, ∀ H1 : Hp, Same H H1 → ∀ p, H1 p = none → Q (.ref p) (upd H1 p (.lst [.int (if c - 10 ^ (18 : Int).toNat > 0 then c - 10 ^ (18 : Int).toNat else 0), .int ((c % 2147483549 + 7) * (2 * k + 3) ^ (3 : Int).toNat % 2147483477 + 1)])) := by
    intro c H1 s1 p np
    have m0 := Int.emod_nonneg ((c % 2147483549 + 7) * (2 * k + 3) ^ (3 : Int).toNat) (show (2147483477 : Int) ≠ 0 by decide)
    have m1 := Int.emod_lt_of_pos ((c % 2147483549 + 7) * (2 * k + 3) ^ (3 : Int).toNat) (show (0 : Int) < 2147483477 by decide)
    refine q p _ (s1.free np) (fun c o e => ?_) ⟨_, _, upd_same, by split <;> omega, by omega, by omega⟩
    rw [upd_ne (ne_of_none (s1 _ _ e) np)]
    exact s1 _ _ e
  have cm : CMulW 29 k := wide_mul (a := 5) (b := 7) (by decide) (by omega) (by decide) (by decide) (by decide)
  have cm2 : CMulW 2 k := wide_mul (a := 5) (b := 7) (by decide) (by omega) (by decide) (by decide) (by decide)
  have two : 2 ≤ sizeLine := by decide
  have fin2 : ∀ c : Int, rMkL [.int (if c - 10 ^ (18 : Int).toNat > 0 then c - 10 ^ (18 : Int).toNat else 0), .int ((c % 2147483549 + 7) * (2 * k + 3) ^ (3 : Int).toNat % 2147483477 + 1)] H Q := fun c => ⟨two, fin c H (Same.refl H)⟩
  have cp1 : CPow 10 18 := ⟨by decide, by decide, by decide⟩
  have cp2 : CPow (2 * k + 3) 3 := ⟨by decide, by decide, by omega⟩
  have cm3 : ∀ c : Int, CMulW (c % 2147483549 + 7) ((2 * k + 3) ^ (3 : Int).toNat) := fun c => by
    have m0 := Int.emod_nonneg c (show (2147483549 : Int) ≠ 0 by decide)
    have m1 := Int.emod_lt_of_pos c (show (0 : Int) < 2147483549 by decide)
    have z : Sz 8 (2 * k + 3) := by
      unfold Sz
      omega
    have z3 : Sz 24 ((2 * k + 3) ^ (3 : Int).toNat) := by
      have e : (2 * k + 3) ^ (3 : Int).toNat = (2 * k + 3) * (2 * k + 3) * (2 * k + 3) := by
        show (2 * k + 3) ^ 3 = _
        rw [Int.pow_succ, Int.pow_succ, Int.pow_succ, Int.pow_zero, Int.one_mul]
      rw [e]
      exact sz_mul (sz_mul z z) z
    exact cmul_sz (n := 32) (by unfold Sz; omega) z3
  repeat walk_at "rd"
  refine i_len_L hs ?_
  repeat walk_at "rd"
  refine i_dec (fun h0 => ?_) (fun h0 => ?_)
  · have hlt : k.toNat < ns.length := by
      rw [List.length_map] at h0
      omega
    repeat walk_at "rd"
    refine i_ix_L hs (v := .int ns[k.toNat]) ?_ ?_
    · have z := atI_nat (xs := ns.map V.int) (j := k.toNat) (v := .int ns[k.toNat]) (by simp [hlt])
      rw [show ((k.toNat : Nat) : Int) = k by omega] at z
      exact z
    repeat walk_at "rd"
    refine i_I cp1 ?_
    repeat walk_at "rd"
    refine i_I cp2 ?_
    repeat walk_at "rd"
    · exact fin2 _
    · exact cm2
    · exact cm3 _
  · repeat walk_at "rd"
    refine i_I cp1 ?_
    repeat walk_at "rd"
    refine i_I cp2 ?_
    repeat walk_at "rd"
    · exact fin2 _
    · exact cm2
    · exact cm3 _
  · exact cm
end Lw

namespace Ly
open PySem PySem.Spec PyProof.Rows L2
def kindV : V → Str
  | .int _ => "integer"
  | .bl _ => "truth"
  | .non => "none"
  | .str _ => "string"
  | _ => "other"
def spIsNm : Sp := fun vs H Q _ => ∃ v, vs = [v, .str (kindV v)] ∧ Th H v ∧ ∀ H', Same H H' → Q (.bl (isNameV v)) H'
theorem abc_mem (c : Nat) : decide (c ∈ ("abcdefghijklmnopqrstuvwxyz" : Str).cps.toList) = letB c := by
  have e : ("abcdefghijklmnopqrstuvwxyz" : Str).cps.toList = (List.range 26).map (97 + ·) := by decide +kernel
  rw [e]
  unfold letB
  by_cases h : 97 ≤ c ∧ c ≤ 122
  · rw [decide_eq_true h]
    refine decide_eq_true (List.mem_map.mpr ⟨c - 97, List.mem_range.mpr (by omega), by omega⟩)
  · rw [decide_eq_false h]
    refine decide_eq_false fun z => h ?_
    obtain ⟨i, hi, e⟩ := List.mem_map.mp z
    have := List.mem_range.mp hi
    omega
end Ly
namespace Lw
open PySem PySem.Spec PyProof.Rows L2 Ly
local macro_rules | `(tactic| walk_at "rd") => `(tactic| first
  | ((with_reducible refine' i_var ?hv ?_); (case hv => exact rfl))
  | with_reducible refine i_c ?_
  | with_reducible refine i_op ?_
  | with_reducible refine i_cons ?_
  | with_reducible refine i_nil ?_
  | with_reducible refine i_cb ?_
  | with_reducible refine i_call ?_
  | with_reducible refine i_I0 ?_
  | with_reducible refine i_add_i ?_
  | with_reducible refine i_sub_i ?_
  | with_reducible refine i_md_i (by first | decide | assumption) ?_
  | ((with_reducible refine' i_md_i ?c ?_); rotate_left)
  | ((with_reducible refine' i_mul_i ?c ?_); rotate_left)
  | with_reducible refine i_fd_i (by decide) ?_
  | ((with_reducible refine' i_fd_i ?c ?_); rotate_left)
  | with_reducible refine i_int ?_
  | with_reducible refine i_abs ?_
  | with_reducible refine i_max2 ?_
  | with_reducible refine i_min2 ?_
  | with_reducible refine i_gcd ?_
  | with_reducible refine i_seq ?_
  | with_reducible refine i_if ?_
  | with_reducible refine i_asg ?_
  | with_reducible refine i_ret ?_
  | with_reducible refine i_drop ?_
  | with_reducible refine i_next ?_
  | with_reducible refine i_un ?_
  | with_reducible refine i_U ?_
  | ((with_reducible refine i_gname ?_); dsimp only [List.set])
  | with_reducible refine i_test ?_
  | with_reducible refine i_not ?_
  | with_reducible refine i_or ?_
  | with_reducible refine i_and ?_
  | with_reducible refine i_tb ?_
  | with_reducible refine i_andV ?_
  | with_reducible refine i_orV ?_
  | with_reducible refine i_notV ?_
  | with_reducible refine i_ifx ?_
  | with_reducible refine i_ext ?_
  | with_reducible refine i_exf ?_
  | with_reducible refine i_exn ?_
  | with_reducible refine i_itt ?_
  | with_reducible refine i_itf ?_
  | with_reducible refine i_gsub ?_
  | with_reducible refine i_nt ?_
  | with_reducible refine i_tup ?_
  | with_reducible refine i_lst ?_
  | with_reducible refine i_nf ?_
  | with_reducible refine i_isint ?_
  | ((with_reducible refine' i_top ?r ?_); (case r => walk_at "hp"))
  | ((with_reducible refine' i_bot ?r ?_); (case r => walk_at "hp"))
  | with_reducible refine i_fld ?_
  | with_reducible refine i_sfld ?_
  | with_reducible refine i_pp ?_
  | with_reducible refine i_meth ?_
  | with_reducible refine i_smeth ?_
  | with_reducible refine i_make ?_
  | with_reducible refine i_sl ?_
  | with_reducible refine i_noPart ?_
  | with_reducible refine i_part ?_
  | with_reducible refine i_smethK ?_
  | with_reducible refine i_sk1 ?_
  | with_reducible refine i_makeK ?_
  | with_reducible refine i_methK ?_
  | with_reducible refine i_mk11 ?_
  | ((with_reducible refine' i_rmk ?r ?h1 ?h2 ?_); (case r => walk_at "hp"); (case h1 => decide +kernel); (case h2 => decide +kernel))
  | with_reducible refine i_tpar ?_
  | ((with_reducible refine i_rpar ?_); dsimp only [List.set])
  | with_reducible refine i_eq_s rfl ?_
  | with_reducible refine i_ne_s rfl ?_
  | ((with_reducible refine' i_rtop ?r ?c ?n ?_); (case r => walk_at "hp"); (case c => assumption); (case n => assumption))
  | ((with_reducible refine' i_rbot ?r ?c ?n ?_); (case r => walk_at "hp"); (case c => assumption); (case n => assumption))
  | ((with_reducible refine' i_rpp ?r ?_); (case r => walk_at "hp"))
  | ((with_reducible refine' i_rmeth ?r ?h1 ?h2 ?_); (case r => walk_at "hp"); (case h1 => decide +kernel); (case h2 => decide +kernel))
  | ((with_reducible refine' i_ix_l ?hp ?ha ?_); (case hp => walk_at "hp"); (case ha => exact rfl))
  | ((with_reducible refine' i_len_l ?hp ?_); (case hp => walk_at "hp"))
  | ((with_reducible refine' i_ix_f0 ?hp ?_); (case hp => walk_at "hp"))
  | ((with_reducible refine' i_ix_f1 ?hp ?_); (case hp => walk_at "hp"))
  | ((with_reducible refine' i_ix_t ?hp ?ha ?_); (case hp => walk_at "hp"); (case ha => exact rfl)))
local macro_rules | `(tactic| walk_at "hp") => `(tactic| first
  | assumption
  | exact upd_same
  | exact SqL.of (by assumption)
  | (refine' Dr.tup (by assumption) ?hq; (case hq => walk_at "hp"))
  | (refine' FrL.same (by assumption) ?hq; (case hq => walk_at "hp"))
  | (refine' FracAt.same (by assumption) ?hq; (case hq => walk_at "hp"))
  | (refine' FracAt.nl (by assumption) ?hq; (case hq => walk_at "hp"))
  | (refine' RatAt.nl (by assumption) ?hq; (case hq => walk_at "hp"))
  | (refine' Num.nl (by assumption) ?hq; (case hq => walk_at "hp"))
  | (refine' FracAt.pk (by assumption) ?hq; (case hq => walk_at "hp"))
  | (refine' RatAt.pk (by assumption) ?hq; (case hq => walk_at "hp"))
  | (refine' Num.pk (by assumption) ?hq; (case hq => walk_at "hp"))
  | (refine' Dr.keep (by assumption) _ _ (by assumption) ?hq; (case hq => walk_at "hp"))
  | (refine' (show Same _ _ by assumption) _ _ ?hq; (case hq => walk_at "hp"))
  | (refine' RatAt.same (by assumption) ?hq; (case hq => walk_at "hp"))
  | (refine' Num.same (by assumption) ?hq; (case hq => walk_at "hp")))
local macro_rules | `(tactic| walk_at "sm") => `(tactic| first
  | assumption
  | exact Same.refl _
  | (refine' Same.kl (by assumption) (by assumption) ?aa; (case aa => walk_at "sm"))
  | (refine' Same.trans ?aa (by assumption); (case aa => walk_at "sm")))
local macro_rules | `(tactic| walk_at "dr") => `(tactic| first
  | assumption
  | (refine' Dr.same ?aa (by assumption); (case aa => walk_at "dr"))
  | (refine' Dr.trans ?aa (by assumption); (case aa => walk_at "dr")))

variable {W : Wd} {a : Ad}
theorem k_law_is_named (T : Txt W.K W.mg a) : Cl W 1 "_law_is_named" spIsNm := by
  refine cl_of' T.d_law_is_named sc_law_is_named bd_law_is_named (fun vs H Q E ⟨v, h, _⟩ => by rw [h]; rfl) fun f cdv A outer s H vs Q E hr h => ?_
  obtain ⟨v, rfl, t, q⟩ := h
  refine ⟨_, (pss_one (ps_ret (pe_and (pe_cmpR (r := rEqU W.K) (op_eqU hr.units) (pv 1) pe_str (nomark _)) (pe_and (pe_chain op_le op_le pe_int (pe_callB (r := Ly.rLen W.K) call_lenU (by rfl) T.b_len (by decide +kernel) (pa_cons (pv 0) pa_nil)) pe_int) (pe_one (pe_callB (r := rAll W.K) (cr_all rfl) (by rfl) T.b_all (by decide +kernel) (pa_cons (pe_lc (own := [("_law_sign", 2)]) (g := (gName 2)) (tt := tYes) rfl sc_law_is_named.nd (pi_str (pv 0)) (blkOk_by (N := N_law_is_named) (sc := defScope s_law_is_named) (by decide +kernel)) (fun _ _ _ _ _ => (pg_name (i := 2) sc_law_is_named.nd rfl (Or.inl rfl))) (fun _ _ _ _ _ => pts_nil) (fun _ _ _ _ _ => (pe_cmpR op_inSg (pv 2) pe_str rfl))) pa_nil))))))), ?_⟩
  refine i_start (σ' := [some v, some (V.str (kindV v)), none]) rfl ?_
  repeat walk_at "rd"
  cases t with
  | str x l =>
    refine i_dec (fun _ => ?_) (fun e => absurd rfl e)
    repeat walk_at "rd"
    refine i_chain ?_
    repeat walk_at "rd"
    refine i_len_s (sl_of (by omega)) (i_I0 (i_rchain (fun h1 => ?_) (fun h1 => ?_)))
    · repeat walk_at "rd"
      refine i_itB (fun h2 => ?_) (fun h2 => ?_)
      · repeat walk_at "rd"
        refine i_lcS (fun i H' v => ∃ c, x.cps.toList[i]? = some c ∧ v = V.bl (letB c)) rfl (by omega) (fun _ _ _ _ _ g => g) (fun y => rfl) ?_ ?_
        · intro i c H' Q' hc s q'
          dsimp only [List.map, wipe, List.set]
          repeat walk_at "rd"
          refine i_inSg ?_
          rw [abc_mem]
          refine q' _ H' (Same.refl _) ⟨c, ?_, rfl⟩
          rw [Array.getElem?_toList]
          exact hc
        · intro r H' ys nr s' hr' hy g
          repeat walk_at "rd"
          have hl : ys.length = x.cps.toList.length := by
            rw [hy]
            exact (Array.length_toList ..).symm
          have e := bl_map (f := letB) hl g
          rw [e] at hr'
          refine i_all hr' ?_
          have e2 : isNameV (V.str x) = (x.cps.toList.map letB).all id := by
            show nameB x = _
            unfold nameB
            rw [h1, h2]
            rfl
          have z := q H' s'
          rw [e2] at z
          exact z
      · have e : isNameV (V.str x) = false := by
          show nameB x = false
          unfold nameB
          rw [h1, h2]
          rfl
        have z := q H (Same.refl _)
        rw [e] at z
        exact z
    · repeat walk_at "rd"
      have e : isNameV (V.str x) = false := by
        show nameB x = false
        unfold nameB
        rw [h1]
        rfl
      have z := q H (Same.refl _)
      rw [e] at z
      exact z
  | _ =>
    refine i_dec (fun e => absurd e ?_) (fun _ => q H (Same.refl _))
    intro e
    have e2 := V.str.inj e
    revert e2
    dsimp only [kindV]
    decide +kernel
theorem kind_int (v : V) (H : Hp) (t : Th H v) : decide (V.str (kindV v) = V.str ("integer" : Str)) = isIntV v := by
  cases t with
  | int i z => exact decide_eq_true rfl
  | _ =>
    refine decide_eq_false fun e => absurd (V.str.inj e) ?_
    dsimp only [kindV]
    decide +kernel
theorem i_cnt {v : V} {H : Hp} {σ : L2.St} (t : Th H v) (hv : σ[0]? = some (some v)) {Qf : VK} (q : Qf (.bl (isCountV v)) H) :
    if decide (V.str (kindV v) = V.str ("integer" : Str)) = true then tOp (rI0 fun i j => V.bl (decide (j ≤ i))) (tVar 0) (tC (V.int 0)) σ H Qf else Qf (V.bl false) H := by
  rw [kind_int v H t]
  cases t with
  | int i z => exact iteT ⟨_, hv, i, 0, rfl, rfl, q⟩
  | _ => exact iteF q
theorem i_isNm {v : V} {H : Hp} {Q : VK} {E : XK} (t : Th H v) (q : ∀ H', Same H H' → Q (.bl (isNameV v)) H') : spIsNm [v, .str (kindV v)] H Q E := ⟨v, rfl, t, q⟩
def spKinds : Sp := fun vs H Q _ => ∃ v, vs = [v, .str (kindV v)] ∧ Th H v ∧ ∀ H', Same H H' → Q (.bl true) H'
theorem k_law_kinds_right (T : Txt W.K W.mg a) : ClG W 6 "_law_kinds_right" spKinds := by
  refine clg_of T.d_law_kinds_right sc_law_kinds_right bd_law_kinds_right (fun vs H Q E ⟨v, h, _⟩ => by rw [h]; rfl) fun f cdv A outer s H vs Q E hr hgd h => ?_
  obtain ⟨v, rfl, t, q⟩ := h
  refine ⟨_, (pss_cons (ps_set (i := 2) sc_law_kinds_right.nd rfl (Or.inl rfl) (pe_lst (pa_cons (pe_cmpR (r := rEqU W.K) (op_eqU hr.units) (pv 1) pe_str (nomark _)) (pa_cons (pe_and (pe_cmpR (r := rEqU W.K) (op_eqU hr.units) (pv 1) pe_str (nomark _)) (pe_one (pe_cmpR op_ge (pv 0) pe_int (nomark _)))) (pa_cons (pe_cl (k_law_is_named T) hr (by decide) rfl (pa_cons (pv 0) (pa_cons (pv 1) pa_nil))) pa_nil))))) (pss_cons (ps_set (i := 3) sc_law_kinds_right.nd rfl (Or.inl rfl) (pe_lst (pa_cons (pe_cl (k_is_integer T) hr (by decide) rfl (pa_cons (pv 0) pa_nil)) (pa_cons (pe_cl (k_is_count T) hr (by decide) rfl (pa_cons (pv 0) pa_nil)) (pa_cons (pe_cl (k_is_name T) hr (by decide) rfl (pa_cons (pv 0) pa_nil)) pa_nil))))) (pss_cons (ps_set (i := 4) sc_law_kinds_right.nd rfl (Or.inl rfl) (pe_lst (pa_cons (pe_clK0 (kk_is_integer T) hr (by decide) (by rfl) (pk_cons (pv 0) pk_nil)) (pa_cons (pe_clK0 (kk_is_count T) hr (by decide) (by rfl) (pk_cons (pv 0) pk_nil)) (pa_cons (pe_clK0 (kk_is_name T) hr (by decide) (by rfl) (pk_cons (pv 0) pk_nil)) pa_nil))))) (pss_one (ps_ret (pe_and (pe_cmpR (r := rEqU W.K) (op_eqU hr.units) (pe_callB (r := rReprD W.K) (call_reprD hr hgd) (by rfl) T.b_repr (by decide +kernel) (pa_cons (pv 3) pa_nil)) (pe_callB (r := rReprD W.K) (call_reprD hr hgd) (by rfl) T.b_repr (by decide +kernel) (pa_cons (pv 2) pa_nil)) (nomark _)) (pe_one (pe_cmpR (r := rEqU W.K) (op_eqU hr.units) (pe_callB (r := rReprD W.K) (call_reprD hr hgd) (by rfl) T.b_repr (by decide +kernel) (pa_cons (pv 4) pa_nil)) (pe_callB (r := rReprD W.K) (call_reprD hr hgd) (by rfl) T.b_repr (by decide +kernel) (pa_cons (pv 2) pa_nil)) (nomark _))))))))), ?_⟩
  refine i_start (σ' := [some v, some (V.str (kindV v)), none, none, none]) rfl ?_
  repeat walk_at "rd"
  refine i_cnt t rfl ?_
  repeat walk_at "rd"
  refine i_isNm t fun H1 s1 => ?_
  repeat walk_at "rd"
  rw [kind_int v H t]
  refine i_mkL (by show 3 ≤ 1000; decide) fun l1 H2 n2 h2 s2 => ?_
  repeat walk_at "rd"
  refine i_kind ((t.same s1).same s2) fun H3 s3 => ?_
  repeat walk_at "rd"
  refine i_kind (((t.same s1).same s2).same s3) fun H4 s4 => ?_
  repeat walk_at "rd"
  refine i_kind ((((t.same s1).same s2).same s3).same s4) fun H5 s5 => ?_
  repeat walk_at "rd"
  refine i_mkL (by show 3 ≤ 1000; decide) fun l2 H6 n6 h6 s6 => ?_
  have t6 := (((((t.same s1).same s2).same s3).same s4).same s5).same s6
  repeat walk_at "rd"
  refine i_clK1 (i_kind t6 fun H7 s7 => ?_)
  repeat walk_at "rd"
  refine i_clK1 (i_kind (t6.same s7) fun H8 s8 => ?_)
  repeat walk_at "rd"
  refine i_clK1 (i_kind ((t6.same s7).same s8) fun H9 s9 => ?_)
  repeat walk_at "rd"
  refine i_mkL (by show 3 ≤ 1000; decide) fun l3 H10 n10 h10 s10 => ?_
  repeat walk_at "rd"
  have g1 : H10 l1 = some (.lst ([isIntV v, isCountV v, isNameV v].map V.bl)) := s10 _ _ (s9 _ _ (s8 _ _ (s7 _ _ (s6 _ _ (s5 _ _ (s4 _ _ (s3 _ _ h2)))))))
  have g2 : H10 l2 = some (.lst ([isIntV v, isCountV v, isNameV v].map V.bl)) := s10 _ _ (s9 _ _ (s8 _ _ (s7 _ _ h6)))
  have g3 : H10 l3 = some (.lst ([isIntV v, isCountV v, isNameV v].map V.bl)) := h10
  refine i_reprB g2 (by show 3 ≤ 1000; decide) ?_
  repeat walk_at "rd"
  refine i_reprB g1 (by show 3 ≤ 1000; decide) ?_
  repeat walk_at "rd"
  refine i_dec (fun _ => ?_) (fun e => absurd rfl e)
  repeat walk_at "rd"
  refine i_reprB g3 (by show 3 ≤ 1000; decide) ?_
  repeat walk_at "rd"
  refine i_reprB g1 (by show 3 ≤ 1000; decide) ?_
  repeat walk_at "rd"
  rw [decide_eq_true rfl]
  exact q H10 (((((((((s1.trans s2).trans s3).trans s4).trans s5).trans s6).trans s7).trans s8).trans s9).trans s10)
end Lw

namespace Ly
open PySem PySem.Spec PyProof.Rows L2
theorem Th.dr {H H' : Hp} {p : Addr} {v : V} (k : Dr p H H') (n : v ≠ .ref p) (t : Th H v) : Th H' v := by
  cases t with
  | int i z => exact .int i z
  | bl b => exact .bl b
  | non => exact .non
  | str x l => exact .str x l
  | lst a xs e => exact .lst a xs (k.keep _ _ (fun z => n (by rw [z])) e)
  | tup a xs e => exact .tup a xs (k.keep _ _ (fun z => n (by rw [z])) e)
  | dct a xs e => exact .dct a xs (k.keep _ _ (fun z => n (by rw [z])) e)
theorem same_new {H : Hp} {a : Addr} {o : HO} (n : H a = none) : Same H (upd H a o) := fun c u e => by
  rw [upd_ne (ne_of_none e n)]
  exact e
/-- {"k": v} -/
theorem i_disp1 {H : Hp} {σ : L2.St} {Q : VK} {x : Str} {v : V} {i : Nat} (hv : σ[i]? = some (some v)) (q : ∀ r H', H r = none → H' r = some (.dK [((Sum.inr x : Key), v)]) → Same H H' → Q (.ref r) H') : tDisp [(tC (.str x), tVar i)] σ H Q := by
  intro p np
  refine ⟨v, hv, upd_same, [((Sum.inr x : Key), v)], rfl, (by show 1 ≤ 15; decide), q p _ np upd_same fun c u e => ?_⟩
  rw [upd_ne (ne_of_none e np), upd_ne (ne_of_none e np)]
  exact e
def Sg (v : V) : Prop := ∃ c : Nat, v = .str ⟨#[c]⟩
theorem sgAll : ∀ (ys : List V), (∀ (i : Nat) (v : V), ys[i]? = some v → Sg v) → ∃ cs : List Nat, ys = cs.map (fun c => V.str ⟨#[c]⟩)
  | [], _ => ⟨[], rfl⟩
  | y :: ys, h => by
    obtain ⟨c, e⟩ := h 0 y rfl
    obtain ⟨cs, e2⟩ := sgAll ys fun i v k => h (i + 1) v k
    exact ⟨c :: cs, by rw [e, e2]; rfl⟩
theorem join_sg (cs : List Nat) : (Txt.join ("" : Str) (cs.map fun c => (⟨#[c]⟩ : Str))).cps.toList = cs := by
  rw [TL.join_eq, show ("" : Str) = ⟨#[]⟩ by decide +kernel]
  induction cs with
  | nil => rfl
  | cons c cs ih =>
    rw [List.map_cons, PyProof.Rows.join_nil_cons, app_toList, ih]
    rfl
def spThing : Sp := fun vs H Q _ => ∃ p : Addr, vs = [.ref p] ∧ Pot H p ∧ ∀ r H' v, H r = none → Dr p H H' → H' r = some (.tup [v, .str (kindV v)]) → Th H' v → v ≠ .ref p → Q (.ref r) H'
end Ly
namespace Lw
open PySem PySem.Spec PyProof.Rows L2 Ly
local macro_rules | `(tactic| walk_at "rd") => `(tactic| first
  | ((with_reducible refine' i_var ?hv ?_); (case hv => exact rfl))
  | with_reducible refine i_c ?_
  | with_reducible refine i_op ?_
  | with_reducible refine i_cons ?_
  | with_reducible refine i_nil ?_
  | with_reducible refine i_cb ?_
  | with_reducible refine i_call ?_
  | with_reducible refine i_I0 ?_
  | with_reducible refine i_add_i ?_
  | with_reducible refine i_sub_i ?_
  | with_reducible refine i_md_i (by first | decide | assumption) ?_
  | ((with_reducible refine' i_md_i ?c ?_); rotate_left)
  | ((with_reducible refine' i_mul_i ?c ?_); rotate_left)
  | with_reducible refine i_fd_i (by decide) ?_
  | ((with_reducible refine' i_fd_i ?c ?_); rotate_left)
  | with_reducible refine i_int ?_
  | with_reducible refine i_abs ?_
  | with_reducible refine i_max2 ?_
  | with_reducible refine i_min2 ?_
  | with_reducible refine i_gcd ?_
  | with_reducible refine i_seq ?_
  | with_reducible refine i_if ?_
  | with_reducible refine i_asg ?_
  | with_reducible refine i_ret ?_
  | with_reducible refine i_drop ?_
  | with_reducible refine i_next ?_
  | with_reducible refine i_un ?_
  | with_reducible refine i_U ?_
  | ((with_reducible refine i_gname ?_); dsimp only [List.set])
  | with_reducible refine i_test ?_
  | with_reducible refine i_not ?_
  | with_reducible refine i_or ?_
  | with_reducible refine i_and ?_
  | with_reducible refine i_tb ?_
  | with_reducible refine i_andV ?_
  | with_reducible refine i_orV ?_
  | with_reducible refine i_notV ?_
  | with_reducible refine i_ifx ?_
  | with_reducible refine i_ext ?_
  | with_reducible refine i_exf ?_
  | with_reducible refine i_exn ?_
  | with_reducible refine i_itt ?_
  | with_reducible refine i_itf ?_
  | with_reducible refine i_gsub ?_
  | with_reducible refine i_nt ?_
  | with_reducible refine i_tup ?_
  | with_reducible refine i_lst ?_
  | with_reducible refine i_nf ?_
  | with_reducible refine i_isint ?_
  | ((with_reducible refine' i_top ?r ?_); (case r => walk_at "hp"))
  | ((with_reducible refine' i_bot ?r ?_); (case r => walk_at "hp"))
  | with_reducible refine i_fld ?_
  | with_reducible refine i_sfld ?_
  | with_reducible refine i_pp ?_
  | with_reducible refine i_meth ?_
  | with_reducible refine i_smeth ?_
  | with_reducible refine i_make ?_
  | with_reducible refine i_sl ?_
  | with_reducible refine i_noPart ?_
  | with_reducible refine i_part ?_
  | with_reducible refine i_smethK ?_
  | with_reducible refine i_sk1 ?_
  | with_reducible refine i_makeK ?_
  | with_reducible refine i_methK ?_
  | with_reducible refine i_mk11 ?_
  | ((with_reducible refine' i_rmk ?r ?h1 ?h2 ?_); (case r => walk_at "hp"); (case h1 => decide +kernel); (case h2 => decide +kernel))
  | with_reducible refine i_tpar ?_
  | ((with_reducible refine i_rpar ?_); dsimp only [List.set])
  | with_reducible refine i_eq_s rfl ?_
  | with_reducible refine i_ne_s rfl ?_
  | ((with_reducible refine' i_rtop ?r ?c ?n ?_); (case r => walk_at "hp"); (case c => assumption); (case n => assumption))
  | ((with_reducible refine' i_rbot ?r ?c ?n ?_); (case r => walk_at "hp"); (case c => assumption); (case n => assumption))
  | ((with_reducible refine' i_rpp ?r ?_); (case r => walk_at "hp"))
  | ((with_reducible refine' i_rmeth ?r ?h1 ?h2 ?_); (case r => walk_at "hp"); (case h1 => decide +kernel); (case h2 => decide +kernel))
  | ((with_reducible refine' i_ix_l ?hp ?ha ?_); (case hp => walk_at "hp"); (case ha => exact rfl))
  | ((with_reducible refine' i_len_l ?hp ?_); (case hp => walk_at "hp"))
  | ((with_reducible refine' i_ix_f0 ?hp ?_); (case hp => walk_at "hp"))
  | ((with_reducible refine' i_ix_f1 ?hp ?_); (case hp => walk_at "hp"))
  | ((with_reducible refine' i_ix_t ?hp ?ha ?_); (case hp => walk_at "hp"); (case ha => exact rfl)))
local macro_rules | `(tactic| walk_at "hp") => `(tactic| first
  | assumption
  | exact upd_same
  | exact SqL.of (by assumption)
  | (refine' Dr.tup (by assumption) ?hq; (case hq => walk_at "hp"))
  | (refine' FrL.same (by assumption) ?hq; (case hq => walk_at "hp"))
  | (refine' FracAt.same (by assumption) ?hq; (case hq => walk_at "hp"))
  | (refine' FracAt.nl (by assumption) ?hq; (case hq => walk_at "hp"))
  | (refine' RatAt.nl (by assumption) ?hq; (case hq => walk_at "hp"))
  | (refine' Num.nl (by assumption) ?hq; (case hq => walk_at "hp"))
  | (refine' FracAt.pk (by assumption) ?hq; (case hq => walk_at "hp"))
  | (refine' RatAt.pk (by assumption) ?hq; (case hq => walk_at "hp"))
  | (refine' Num.pk (by assumption) ?hq; (case hq => walk_at "hp"))
  | (refine' Dr.keep (by assumption) _ _ (by assumption) ?hq; (case hq => walk_at "hp"))
  | (refine' (show Same _ _ by assumption) _ _ ?hq; (case hq => walk_at "hp"))
  | (refine' RatAt.same (by assumption) ?hq; (case hq => walk_at "hp"))
  | (refine' Num.same (by assumption) ?hq; (case hq => walk_at "hp")))
local macro_rules | `(tactic| walk_at "sm") => `(tactic| first
  | assumption
  | exact Same.refl _
  | (refine' Same.kl (by assumption) (by assumption) ?aa; (case aa => walk_at "sm"))
  | (refine' Same.trans ?aa (by assumption); (case aa => walk_at "sm")))
local macro_rules | `(tactic| walk_at "dr") => `(tactic| first
  | assumption
  | (refine' Dr.same ?aa (by assumption); (case aa => walk_at "dr"))
  | (refine' Dr.trans ?aa (by assumption); (case aa => walk_at "dr")))

variable {W : Wd} {a : Ad}
theorem k_law_thing (T : Txt W.K W.mg a) : Cl W 3 "_law_thing" spThing := by
  refine cl_of' T.d_law_thing sc_law_thing bd_law_thing (fun vs H Q E ⟨v, h, _⟩ => by rw [h]; rfl) fun f cdv A outer s H vs Q E hr h => ?_
  obtain ⟨p, rfl, hp, q⟩ := h
  have cp9 : CPow 10 9 := ⟨by decide, by decide, by decide⟩
  have cp29 : CPow 10 29 := ⟨by decide, by decide, by decide⟩
  have v9 : (10 : Int) ^ (9 : Int).toNat = 1000000000 := by decide
  have v29 : (10 : Int) ^ (29 : Int).toNat = 100000000000000000000000000000 := by decide
  refine ⟨_, (pss_cons (ps_set (i := 1) sc_law_thing.nd rfl (Or.inl rfl) (pe_lst (pa_cons pe_int (pa_cons pe_int (pa_cons (pe_op op_subU pe_int pe_int) (pa_cons (pe_cl (k_law_draw T) hr (by decide) rfl (pa_cons (pv 0) (pa_cons pe_int pa_nil))) (pa_cons (pe_op op_subU pe_int (pe_cl (k_law_draw T) hr (by decide) rfl (pa_cons (pv 0) (pa_cons (pe_op op_pow pe_int pe_int) pa_nil)))) (pa_cons (pe_op op_addU (pe_op op_pow pe_int pe_int) (pe_cl (k_law_draw T) hr (by decide) rfl (pa_cons (pv 0) (pa_cons (pe_op op_pow pe_int pe_int) pa_nil)))) pa_nil)))))))) (pss_cons (ps_set (i := 2) sc_law_thing.nd rfl (Or.inl rfl) (pe_lst (pa_cons pe_str (pa_cons pe_str (pa_cons pe_str (pa_cons pe_str (pa_cons pe_str (pa_cons pe_str (pa_cons pe_str (pa_cons pe_str (pa_cons pe_str (pa_cons pe_str (pa_cons pe_str (pa_cons pe_str (pa_cons pe_str pa_nil))))))))))))))) (pss_cons (ps_set (i := 3) sc_law_thing.nd rfl (Or.inl rfl) (pe_cl (k_law_pick T) hr (by decide) rfl (pa_cons (pv 0) (pa_cons (pe_lst (pa_cons pe_int (pa_cons pe_int (pa_cons pe_int (pa_cons pe_int (pa_cons pe_int (pa_cons pe_int (pa_cons pe_int (pa_cons pe_int (pa_cons pe_int (pa_cons pe_int pa_nil))))))))))) pa_nil)))) (pss_cons (ps_set (i := 4) sc_law_thing.nd rfl (Or.inl rfl) (pe_cl (k_law_draw T) hr (by decide) rfl (pa_cons (pv 0) (pa_cons pe_int pa_nil)))) (pss_cons (ps_if (pt_cmpR (r := rEqU W.K) (op_eqU hr.units) (pv 4) pe_int (nomark _)) (pss_one (ps_ret (pe_tup (pa_cons (pe_cl (k_law_pick T) hr (by decide) rfl (pa_cons (pv 0) (pa_cons (pv 1) pa_nil))) (pa_cons pe_str pa_nil))))) pss_nil) (pss_cons (ps_if (pt_cmpR (r := rEqU W.K) (op_eqU hr.units) (pv 4) pe_int (nomark _)) (pss_one (ps_ret (pe_tup (pa_cons (pe_cmpR (r := rEqU W.K) (op_eqU hr.units) (pe_cl (k_law_draw T) hr (by decide) rfl (pa_cons (pv 0) (pa_cons pe_int pa_nil))) pe_int (nomark _)) (pa_cons pe_str pa_nil))))) pss_nil) (pss_cons (ps_if (pt_cmpR (r := rEqU W.K) (op_eqU hr.units) (pv 4) pe_int (nomark _)) (pss_one (ps_ret (pe_tup (pa_cons pe_non (pa_cons pe_str pa_nil))))) pss_nil) (pss_cons (ps_if (pt_cmpR op_lt (pv 4) pe_int (nomark _)) (Evl.pss_cut (ps_set (i := 6) sc_law_thing.nd rfl (Or.inr rfl) (pe_ifExp (pt_cmpR (r := rEqU W.K) (op_eqU hr.units) (pv 4) pe_int (nomark _)) (pv 2) (pe_slice (r := rSlL W.K) sl_list (pv 2) po_none (po_some pe_int)))) (pss_one (ps_ret (pe_tup (pa_cons (pe_joinK (K := W.K) rfl pe_str (pe_lc (own := [("_law_turn", 7)]) (g := (gName 7)) (tt := tYes) rfl sc_law_thing.nd (pi_range1 rfl T.b_range (pa_cons (pv 3) pa_nil)) (blkOk_by (N := N_law_thing) (sc := defScope s_law_thing) (by decide +kernel)) (fun _ _ _ _ _ => (pg_name (i := 7) sc_law_thing.nd rfl (Or.inl rfl))) (fun _ _ _ _ _ => pts_nil) (fun _ _ _ _ _ => (pe_cl (k_law_pick T) hr (by decide) rfl (pa_cons (pv 0) (pa_cons (pv 6) pa_nil)))))) (pa_cons pe_str pa_nil)))))) pss_nil) (pss_cons (ps_set (i := 5) sc_law_thing.nd rfl (Or.inl rfl) (pe_lst (pa_cons (pe_cl (k_law_pick T) hr (by decide) rfl (pa_cons (pv 0) (pa_cons (pv 1) pa_nil))) (pa_cons (pe_cl (k_law_pick T) hr (by decide) rfl (pa_cons (pv 0) (pa_cons (pe_lst (pa_cons pe_str (pa_cons pe_str (pa_cons pe_non (pa_cons pe_bl pa_nil))))) pa_nil))) pa_nil)))) (pss_one (ps_ret (pe_tup (pa_cons (pe_ifExp (pt_cmpR (r := rEqU W.K) (op_eqU hr.units) (pv 4) pe_int (nomark _)) (pe_slice (r := rSlL W.K) sl_list (pv 5) po_none (po_some (pe_cl (k_law_draw T) hr (by decide) rfl (pa_cons (pv 0) (pa_cons pe_int pa_nil))))) (pe_cl (k_law_pick T) hr (by decide) rfl (pa_cons (pv 0) (pa_cons (pe_lst (pa_cons (pe_callTy (r := rTupOf W.K) call_tupleU (by rfl) T.b_tuple (by decide +kernel) (pa_cons (pv 5) pa_nil)) (pa_cons (pe_disp (pps_cons pe_str (pv 5) pps_nil) rfl rfl (by simp) (by decide)) (pa_cons (pe_tup pa_nil) pa_nil)))) pa_nil)))) (pa_cons pe_str pa_nil)))))))))))))), ?_⟩
  refine i_start (σ' := [some (V.ref p), none, none, none, none, none, none, none]) rfl ?_
  repeat walk_at "rd"
  refine i_draw hp (by decide) (sz_lit (by decide)) fun d1 H1 a1 b1 k1 => ?_
  repeat walk_at "rd"
  refine i_I cp9 ?_
  repeat walk_at "rd"
  rw [v9]
  refine i_draw k1.pot' (by decide) (sz_lit (by decide)) fun d2 H2 a2 b2 k2 => ?_
  repeat walk_at "rd"
  refine i_I cp29 ?_
  repeat walk_at "rd"
  refine i_I cp9 ?_
  repeat walk_at "rd"
  rw [v9, v29]
  refine i_draw k2.pot' (by decide) (sz_lit (by decide)) fun d3 H3 a3 b3 k3 => ?_
  repeat walk_at "rd"
  refine i_mkL (by show 6 ≤ 1000; decide) fun gr H4 ng hg s4 => ?_
  have k4 : Dr p H H4 := ((k1.trans k2).trans k3).same s4
  have ngp := fresh_ne k3.pot' ng
  have gz : ∀ v ∈ [V.int 0, V.int 1, V.int (0 - 1), V.int d1, V.int (0 - d2), V.int (100000000000000000000000000000 + d3)], ∃ i : Int, v = .int i ∧ Sz 200 i := by
    intro v hv
    simp only [List.mem_cons, List.not_mem_nil, or_false] at hv
    have zb : ∀ i : Int, i.natAbs < 2 ^ 100 → Sz 200 i := fun i h => sz_mono (n := 100) h (by decide)
    rcases hv with rfl | rfl | rfl | rfl | rfl | rfl
    · exact ⟨_, rfl, zb _ (by decide)⟩
    · exact ⟨_, rfl, zb _ (by decide)⟩
    · exact ⟨_, rfl, zb _ (by decide)⟩
    · exact ⟨_, rfl, zb _ (by omega)⟩
    · exact ⟨_, rfl, zb _ (by omega)⟩
    · exact ⟨_, rfl, zb _ (by omega)⟩
  have gn : [V.int 0, V.int 1, V.int (0 - 1), V.int d1, V.int (0 - d2), V.int (100000000000000000000000000000 + d3)] ≠ [] := by simp
  have gl6 : [V.int 0, V.int 1, V.int (0 - 1), V.int d1, V.int (0 - d2), V.int (100000000000000000000000000000 + d3)].length ≤ 1000 := by show 6 ≤ 1000; decide
  generalize [V.int 0, V.int 1, V.int (0 - 1), V.int d1, V.int (0 - d2), V.int (100000000000000000000000000000 + d3)] = gl at hg gz gn gl6
  have nH : H gr = none := ((k1.trans k2).trans k3).free ng
  clear k1 k2 k3 s4 a1 a2 a3 b1 b2 b3 ng
  repeat walk_at "rd"
  refine i_mkL (by show 13 ≤ 1000; decide) fun sg H5 n5 h5 s5 => ?_
  have k5 : Dr p H H5 := k4.same s5
  have nsp := fresh_ne k4.pot' n5
  have g5 := s5 _ _ hg
  have sgs : ∀ v ∈ [V.str ("a" : Str), V.str ("z" : Str), V.str ("m" : Str), V.str ("A" : Str), V.str ("Z" : Str), V.str ("0" : Str), V.str ("9" : Str), V.str ("_" : Str), V.str (" " : Str), V.str ("-" : Str), V.str ("~" : Str), V.str ("\n" : Str), V.str ("'" : Str)], ∃ c : Nat, v = .str ⟨#[c]⟩ := by
    intro v hv
    simp only [List.mem_cons, List.not_mem_nil, or_false] at hv
    rcases hv with rfl | rfl | rfl | rfl | rfl | rfl | rfl | rfl | rfl | rfl | rfl | rfl | rfl
    · exact ⟨97, congrArg V.str (by decide +kernel)⟩
    · exact ⟨122, congrArg V.str (by decide +kernel)⟩
    · exact ⟨109, congrArg V.str (by decide +kernel)⟩
    · exact ⟨65, congrArg V.str (by decide +kernel)⟩
    · exact ⟨90, congrArg V.str (by decide +kernel)⟩
    · exact ⟨48, congrArg V.str (by decide +kernel)⟩
    · exact ⟨57, congrArg V.str (by decide +kernel)⟩
    · exact ⟨95, congrArg V.str (by decide +kernel)⟩
    · exact ⟨32, congrArg V.str (by decide +kernel)⟩
    · exact ⟨45, congrArg V.str (by decide +kernel)⟩
    · exact ⟨126, congrArg V.str (by decide +kernel)⟩
    · exact ⟨10, congrArg V.str (by decide +kernel)⟩
    · exact ⟨39, congrArg V.str (by decide +kernel)⟩
  generalize hsl : [V.str ("a" : Str), V.str ("z" : Str), V.str ("m" : Str), V.str ("A" : Str), V.str ("Z" : Str), V.str ("0" : Str), V.str ("9" : Str), V.str ("_" : Str), V.str (" " : Str), V.str ("-" : Str), V.str ("~" : Str), V.str ("\n" : Str), V.str ("'" : Str)] = sl at h5 sgs
  have sll : sl.length = 13 := by rw [← hsl]; rfl
  clear hsl
  repeat walk_at "rd"
  refine i_mkL (by show 10 ≤ 1000; decide) fun ll H6 n6 h6 s6 => ?_
  have lens : ∀ v ∈ [V.int 0, V.int 1, V.int 1, V.int 2, V.int 3, V.int 7, V.int 8, V.int 8, V.int 9, V.int 10], ∃ n : Int, v = .int n ∧ 0 ≤ n ∧ n ≤ 10 := by
    intro v hv
    simp only [List.mem_cons, List.not_mem_nil, or_false] at hv
    rcases hv with rfl | rfl | rfl | rfl | rfl | rfl | rfl | rfl | rfl | rfl
    all_goals exact ⟨_, rfl, by decide, by decide⟩
  repeat walk_at "rd"
  refine i_pick (k5.same s6).pot' (fresh_ne k5.pot' n6) h6 (by simp) (by show 10 ≤ 1000; decide) fun ln H7 m7 k7 => ?_
  obtain ⟨n, rfl, n0, n10⟩ := lens ln m7
  have k8 : Dr p H H7 := (k5.same s6).trans k7
  have h7 := k7.keep _ _ nsp (s6 _ _ h5)
  have g7 := k7.keep _ _ ngp (s6 _ _ g5)
  clear k7 k5 k4 s6 s5 h6 h5 g5 hg m7 lens
  repeat walk_at "rd"
  refine i_draw k8.pot' (by decide) (sz_lit (by decide)) fun way H8 w0 w1 kd => ?_
  have k9 : Dr p H H8 := k8.trans kd
  have h8 := kd.keep _ _ nsp h7
  have g8 := kd.keep _ _ ngp g7
  clear kd k8 h7 g7
  repeat walk_at "rd"
  refine i_dec (fun hw => ?_) (fun hw => ?_)
  · repeat walk_at "rd"
    refine i_pick k9.pot' ngp g8 gn gl6 fun x H9 mx kx => ?_
    obtain ⟨i, rfl, zi⟩ := gz x mx
    repeat walk_at "rd"
    exact i_mkT2 fun r H10 nr hr' s10 => q r H10 (.int i) ((k9.trans kx).free nr) ((k9.trans kx).same s10) hr' (.int i zi) (fun z => nomatch z)
  repeat walk_at "rd"
  refine i_dec (fun hw1 => ?_) (fun hw1 => ?_)
  · repeat walk_at "rd"
    refine i_draw k9.pot' (by decide) (sz_lit (by decide)) fun d H9 d0 d1 kx => ?_
    repeat walk_at "rd"
    exact i_mkT2 fun r H10 nr hr' s10 => q r H10 (.bl _) ((k9.trans kx).free nr) ((k9.trans kx).same s10) hr' (.bl _) (fun z => nomatch z)
  repeat walk_at "rd"
  refine i_dec (fun hw2 => ?_) (fun hw2 => ?_)
  · repeat walk_at "rd"
    exact i_mkT2 fun r H10 nr hr' s10 => q r H10 .non (k9.free nr) (k9.same s10) hr' .non (fun z => nomatch z)
  repeat walk_at "rd"
  refine i_dec (fun hw3 => ?_) (fun hw3 => ?_)
  · repeat walk_at "rd"
    refine ⟨fun σ' H' => ∃ (ad : Addr) (xs : List V), σ' = [some (V.ref p), some (V.ref gr), some (V.ref sg), some (V.int n), some (V.int way), none, some (V.ref ad), none] ∧ Dr p H H' ∧ ad ≠ p ∧ H' ad = some (.lst xs) ∧ xs ≠ [] ∧ xs.length ≤ 1000 ∧ ∀ v ∈ xs, ∃ c : Nat, v = .str ⟨#[c]⟩, ?_, ?_⟩
    · repeat walk_at "rd"
      refine i_dec (fun hw5 => ?_) (fun hw5 => ?_)
      · repeat walk_at "rd"
        exact ⟨sg, sl, rfl, k9, nsp, h8, (fun z => by rw [z] at sll; cases sll), by omega, sgs⟩
      · repeat walk_at "rd"
        refine ⟨3, rfl, i_slTo (n := 3) h8 (by omega) fun r H9 nr hr' s9 => ?_⟩
        repeat walk_at "rd"
        refine ⟨r, _, rfl, k9.same s9, fresh_ne k9.pot' nr, hr', ?_, ?_, fun v hv => sgs v (List.mem_of_mem_take hv)⟩
        · intro z
          have := congrArg List.length z
          rw [List.length_take, sll] at this
          cases this
        · rw [List.length_take]
          omega
    · rintro σ' H9 ⟨ad, xs, rfl, k10, nad, had, xn, xl, sx⟩
      repeat walk_at "rd"
      refine i_tM1 ?_
      repeat walk_at "rd"
      refine ⟨⟨_, rfl⟩, ?_⟩
      refine i_lcr ?_
      repeat walk_at "rd"
      refine i_rlcRp (p := p) (fun _ _ v => Sg v) k10.pot' (by omega) (by omega) (fun _ _ _ _ _ g => g) (fun x => rfl) ?_ ?_
      · intro j H10 Q' hj kj q'
        dsimp only [List.map, wipe, List.set]
        repeat walk_at "rd"
        refine i_pick kj.pot' nad (kj.keep _ _ nad had) xn xl fun v H11 mv kv => ?_
        exact q' _ H11 kv (sx v mv)
      intro r H10 zs nr kz hr' hzl g
      obtain ⟨cs, rfl⟩ := sgAll zs g
      rw [List.length_map] at hzl
      have er : cs.map (fun c => V.str ⟨#[c]⟩) = (cs.map fun c => (⟨#[c]⟩ : Str)).map V.str := by
        rw [List.map_map]
        rfl
      rw [er] at hr'
      have sumL : ∀ l : List Nat, ((l.map fun c => (⟨#[c]⟩ : Str)).map (·.length)).sum = l.length := fun l => by
        induction l with
        | nil => rfl
        | cons c l ih =>
          rw [List.map_cons, List.map_cons, List.sum_cons, ih, List.length_cons, Nat.add_comm]
          rfl
      have jl := join_sg cs
      refine i_join hr' ?_ ?_
      · rw [sumL, List.length_map, show ("" : Str).length = 0 by decide +kernel]
        omega
      generalize Txt.join ("" : Str) (cs.map fun c => (⟨#[c]⟩ : Str)) = lb at jl ⊢
      have lbl : lb.length = cs.length := by
        show lb.cps.size = _
        rw [← Array.length_toList, jl]
      repeat walk_at "rd"
      exact i_mkT2 fun r2 H11 n2 hr2 s11 => q r2 H11 (.str lb) ((k10.trans kz).free n2) ((k10.trans kz).same s11) hr2 (.str lb (by omega)) (fun z => nomatch z)
  · repeat walk_at "rd"
    refine i_pick k9.pot' ngp g8 gn gl6 fun x H9 mx kx => ?_
    obtain ⟨i, rfl, zi⟩ := gz x mx
    have k10 : Dr p H H9 := k9.trans kx
    repeat walk_at "rd"
    refine i_mkL4 fun l H10 nl hl s10 => ?_
    repeat walk_at "rd"
    refine i_pick (k10.same s10).pot' (fresh_ne k10.pot' nl) hl (by simp) (by show 4 ≤ 1000; decide) fun y H11 my ky => ?_
    have k11 : Dr p H H11 := (k10.same s10).trans ky
    clear k10 s10 hl ky kx
    repeat walk_at "rd"
    refine i_mkL2 fun inn H12 ni hi s12 => ?_
    have k12 : Dr p H H12 := k11.same s12
    have nip : inn ≠ p := fresh_ne k11.pot' ni
    repeat walk_at "rd"
    refine i_dec (fun hw6 => ?_) (fun hw6 => ?_)
    · repeat walk_at "rd"
      refine i_draw k12.pot' (by decide) (sz_lit (by decide)) fun d H13 d0 d1 kd => ?_
      have hi13 := kd.keep _ _ nip hi
      have k13 : Dr p H H13 := k12.trans kd
      repeat walk_at "rd"
      obtain ⟨d, rfl⟩ : ∃ k : Nat, d = (k : Int) := ⟨d.toNat, by omega⟩
      refine ⟨_, rfl, i_slTo (n := d) hi13 (by show d ≤ 2; omega) fun r H14 nr hr' s14 => ?_⟩
      repeat walk_at "rd"
      exact i_mkT2 fun r2 H15 n2 hr2 s15 => q r2 H15 (.ref r) ((k13.same s14).free n2) ((k13.same s14).same s15) hr2 (.lst r _ (s15 _ _ hr')) (fun z => fresh_ne k13.pot' nr (V.ref.inj z))
    · repeat walk_at "rd"
      refine i_tupOf hi fun t1 n1 => ?_
      have k13 : Dr p H (upd H12 t1 (.tup [.int i, y])) := k12.same (same_new n1)
      have h13 : upd H12 t1 (HO.tup [.int i, y]) t1 = some (.tup [.int i, y]) := upd_same
      have p1 := fresh_ne k12.pot' n1
      generalize upd H12 t1 (HO.tup [.int i, y]) = H13 at k13 h13 ⊢
      repeat walk_at "rd"
      refine i_disp1 rfl fun t2 H14 n2 h14 s14 => ?_
      have k14 : Dr p H H14 := k13.same s14
      have p2 := fresh_ne k13.pot' n2
      repeat walk_at "rd"
      refine i_mkT (by decide) fun t3 H15 n3 h15 s15 => ?_
      have k15 : Dr p H H15 := k14.same s15
      have p3 := fresh_ne k14.pot' n3
      repeat walk_at "rd"
      refine i_mkL3 fun t4 H16 n4 h16 s16 => ?_
      have k16 : Dr p H H16 := k15.same s16
      repeat walk_at "rd"
      refine i_pick k16.pot' (fresh_ne k15.pot' n4) h16 (by simp) (by show 3 ≤ 1000; decide) fun z H17 mz kz => ?_
      have k17 : Dr p H H17 := k16.trans kz
      have tz : Th H16 z ∧ z ≠ .ref p ∧ kindV z = "other" := by
        simp only [List.mem_cons, List.not_mem_nil, or_false] at mz
        rcases mz with rfl | rfl | rfl
        · exact ⟨.tup _ _ (s16 _ _ (s15 _ _ (s14 _ _ h13))), (fun z => p1 (V.ref.inj z)), rfl⟩
        · exact ⟨.dct _ _ (s16 _ _ (s15 _ _ h14)), (fun z => p2 (V.ref.inj z)), rfl⟩
        · exact ⟨.tup _ _ (s16 _ _ h15), (fun z => p3 (V.ref.inj z)), rfl⟩
      obtain ⟨tz, zp, ek⟩ := tz
      have tz2 := tz.dr kz zp
      repeat walk_at "rd"
      refine i_mkT2 fun r2 H18 nr2 hr2 s18 => q r2 H18 z (k17.free nr2) (k17.same s18) ?_ (tz2.same s18) zp
      rw [ek]
      exact hr2
end Lw

namespace Ly
open PySem PySem.Spec PyProof.Rows L2
/-- exceptions in a row -/
def ExL (H : Hp) : List Addr → List (Addr × List (Str × V)) → Prop
  | [], [] => True
  | x :: xs, c :: cs => ExAt H x c.1 c.2 ∧ ExL H xs cs
  | _, _ => False
theorem ExL.same {H H' : Hp} (s : Same H H') : ∀ {xs : List Addr} {cs : List (Addr × List (Str × V))}, ExL H xs cs → ExL H' xs cs
  | [], [], _ => True.intro
  | _ :: _, _ :: _, h => ⟨h.1.same s, ExL.same s h.2⟩
  | [], _ :: _, h => h.elim
  | _ :: _, [], h => h.elim
theorem ExL.ix {H : Hp} : ∀ {xs : List Addr} {cs : List (Addr × List (Str × V))}, ExL H xs cs → xs.length = cs.length ∧ ∀ (i : Nat) (x : Addr) (c : Addr × List (Str × V)), xs[i]? = some x → cs[i]? = some c → ExAt H x c.1 c.2
  | [], [], _ => ⟨rfl, fun i x c h => by simp at h⟩
  | x :: xs, c :: cs, h => by
    obtain ⟨l, k⟩ := ExL.ix h.2
    refine ⟨by rw [List.length_cons, List.length_cons, l], fun i y d hy hd => ?_⟩
    cases i with
    | zero =>
      cases (Option.some.inj hy)
      cases (Option.some.inj hd)
      exact h.1
    | succ i => exact k i y d hy hd
  | [], _ :: _, h => h.elim
  | _ :: _, [], h => h.elim
theorem ExL.app {H : Hp} : ∀ {xs : List Addr} {cs : List (Addr × List (Str × V))} {ys : List Addr} {ds : List (Addr × List (Str × V))}, ExL H xs cs → ExL H ys ds → ExL H (xs ++ ys) (cs ++ ds)
  | [], [], _, _, _, h => h
  | _ :: _, _ :: _, _, _, h, k => ⟨h.1, ExL.app h.2 k⟩
  | [], _ :: _, _, _, h, _ => h.elim
  | _ :: _, [], _, _, h, _ => h.elim
theorem i_cat {H : Hp} {Q : VK} {l b : Addr} {xs zs : List V} (h1 : H l = some (.lst xs)) (h2 : H b = some (.lst zs)) (z : (xs ++ zs).length ≤ 1000) (q : ∀ p H', H p = none → H' p = some (.lst (xs ++ zs)) → Same H H' → Q (.ref p) H') : rAddU (.ref l) (.ref b) H Q :=
  .inr (.inr ⟨l, b, xs, zs, rfl, rfl, h1, h2, by rw [← List.length_append]; exact Nat.le_of_lt (small1000 z), i_new q⟩)
section
variable {H : Hp} {Q : VK} {C : Addr} {f g : Str} {y z : V}
theorem i_mx1 (q : ∀ a H', H a = none → Same H H' → ExAt H' a C [(f, y)] → Q (.ref a) H') : rMkX C 1 0 (spX1 C f) [] [y] H Q := i_mkx1 q
theorem i_mx2 (q : ∀ a H', H a = none → Same H H' → ExAt H' a C [(g, z), (f, y)] → Q (.ref a) H') : rMkX C 2 0 (spX2 C f g) [] [y, z] H Q := i_mkx2 q
theorem i_mx0 (q : ∀ a H', H a = none → Same H H' → ExAt H' a C [] → Q (.ref a) H') : rMkX C 0 0 (spX0 C) [] [] H Q := i_mkx0 q
theorem i_mx1K (q : ∀ a H', H a = none → Same H H' → ExAt H' a C [(f, y)] → Q (.ref a) H') : rMkX C 0 1 (spX1 C f) [y] [] H Q := i_mkx1K q
theorem i_mx2K (q : ∀ a H', H a = none → Same H H' → ExAt H' a C [(g, z), (f, y)] → Q (.ref a) H') : rMkX C 0 2 (spX2 C f g) [z, y] [] H Q := i_mkx2K q
end
end Ly
namespace Lw
open PySem PySem.Spec PyProof.Rows L2 Ly
local macro_rules | `(tactic| walk_at "rd") => `(tactic| first
  | ((with_reducible refine' i_var ?hv ?_); (case hv => exact rfl))
  | with_reducible refine i_c ?_
  | with_reducible refine i_op ?_
  | with_reducible refine i_cons ?_
  | with_reducible refine i_nil ?_
  | with_reducible refine i_cb ?_
  | with_reducible refine i_call ?_
  | with_reducible refine i_I0 ?_
  | with_reducible refine i_add_i ?_
  | with_reducible refine i_sub_i ?_
  | with_reducible refine i_md_i (by first | decide | assumption) ?_
  | ((with_reducible refine' i_md_i ?c ?_); rotate_left)
  | ((with_reducible refine' i_mul_i ?c ?_); rotate_left)
  | with_reducible refine i_fd_i (by decide) ?_
  | ((with_reducible refine' i_fd_i ?c ?_); rotate_left)
  | with_reducible refine i_int ?_
  | with_reducible refine i_abs ?_
  | with_reducible refine i_max2 ?_
  | with_reducible refine i_min2 ?_
  | with_reducible refine i_gcd ?_
  | with_reducible refine i_seq ?_
  | with_reducible refine i_if ?_
  | with_reducible refine i_asg ?_
  | with_reducible refine i_ret ?_
  | with_reducible refine i_drop ?_
  | with_reducible refine i_next ?_
  | with_reducible refine i_un ?_
  | with_reducible refine i_U ?_
  | ((with_reducible refine i_gname ?_); dsimp only [List.set])
  | with_reducible refine i_test ?_
  | with_reducible refine i_not ?_
  | with_reducible refine i_or ?_
  | with_reducible refine i_and ?_
  | with_reducible refine i_tb ?_
  | with_reducible refine i_andV ?_
  | with_reducible refine i_orV ?_
  | with_reducible refine i_notV ?_
  | with_reducible refine i_ifx ?_
  | with_reducible refine i_ext ?_
  | with_reducible refine i_exf ?_
  | with_reducible refine i_exn ?_
  | with_reducible refine i_itt ?_
  | with_reducible refine i_itf ?_
  | with_reducible refine i_gsub ?_
  | with_reducible refine i_nt ?_
  | with_reducible refine i_tup ?_
  | with_reducible refine i_lst ?_
  | with_reducible refine i_nf ?_
  | with_reducible refine i_isint ?_
  | ((with_reducible refine' i_top ?r ?_); (case r => walk_at "hp"))
  | ((with_reducible refine' i_bot ?r ?_); (case r => walk_at "hp"))
  | with_reducible refine i_fld ?_
  | with_reducible refine i_sfld ?_
  | with_reducible refine i_pp ?_
  | with_reducible refine i_meth ?_
  | with_reducible refine i_smeth ?_
  | with_reducible refine i_make ?_
  | with_reducible refine i_sl ?_
  | with_reducible refine i_noPart ?_
  | with_reducible refine i_part ?_
  | with_reducible refine i_smethK ?_
  | with_reducible refine i_sk1 ?_
  | with_reducible refine i_makeK ?_
  | with_reducible refine i_methK ?_
  | with_reducible refine i_mk11 ?_
  | ((with_reducible refine' i_rmk ?r ?h1 ?h2 ?_); (case r => walk_at "hp"); (case h1 => decide +kernel); (case h2 => decide +kernel))
  | with_reducible refine i_tpar ?_
  | ((with_reducible refine i_rpar ?_); dsimp only [List.set])
  | with_reducible refine i_eq_s rfl ?_
  | with_reducible refine i_ne_s rfl ?_
  | ((with_reducible refine' i_rtop ?r ?c ?n ?_); (case r => walk_at "hp"); (case c => assumption); (case n => assumption))
  | ((with_reducible refine' i_rbot ?r ?c ?n ?_); (case r => walk_at "hp"); (case c => assumption); (case n => assumption))
  | ((with_reducible refine' i_rpp ?r ?_); (case r => walk_at "hp"))
  | ((with_reducible refine' i_rmeth ?r ?h1 ?h2 ?_); (case r => walk_at "hp"); (case h1 => decide +kernel); (case h2 => decide +kernel))
  | ((with_reducible refine' i_ix_l ?hp ?ha ?_); (case hp => walk_at "hp"); (case ha => exact rfl))
  | ((with_reducible refine' i_len_l ?hp ?_); (case hp => walk_at "hp"))
  | ((with_reducible refine' i_ix_f0 ?hp ?_); (case hp => walk_at "hp"))
  | ((with_reducible refine' i_ix_f1 ?hp ?_); (case hp => walk_at "hp"))
  | ((with_reducible refine' i_ix_t ?hp ?ha ?_); (case hp => walk_at "hp"); (case ha => exact rfl)))
local macro_rules | `(tactic| walk_at "hp") => `(tactic| first
  | assumption
  | exact upd_same
  | exact SqL.of (by assumption)
  | (refine' Dr.tup (by assumption) ?hq; (case hq => walk_at "hp"))
  | (refine' FrL.same (by assumption) ?hq; (case hq => walk_at "hp"))
  | (refine' FracAt.same (by assumption) ?hq; (case hq => walk_at "hp"))
  | (refine' FracAt.nl (by assumption) ?hq; (case hq => walk_at "hp"))
  | (refine' RatAt.nl (by assumption) ?hq; (case hq => walk_at "hp"))
  | (refine' Num.nl (by assumption) ?hq; (case hq => walk_at "hp"))
  | (refine' FracAt.pk (by assumption) ?hq; (case hq => walk_at "hp"))
  | (refine' RatAt.pk (by assumption) ?hq; (case hq => walk_at "hp"))
  | (refine' Num.pk (by assumption) ?hq; (case hq => walk_at "hp"))
  | (refine' Dr.keep (by assumption) _ _ (by assumption) ?hq; (case hq => walk_at "hp"))
  | (refine' (show Same _ _ by assumption) _ _ ?hq; (case hq => walk_at "hp"))
  | (refine' RatAt.same (by assumption) ?hq; (case hq => walk_at "hp"))
  | (refine' Num.same (by assumption) ?hq; (case hq => walk_at "hp")))
local macro_rules | `(tactic| walk_at "sm") => `(tactic| first
  | assumption
  | exact Same.refl _
  | (refine' Same.kl (by assumption) (by assumption) ?aa; (case aa => walk_at "sm"))
  | (refine' Same.trans ?aa (by assumption); (case aa => walk_at "sm")))
local macro_rules | `(tactic| walk_at "dr") => `(tactic| first
  | assumption
  | (refine' Dr.same ?aa (by assumption); (case aa => walk_at "dr"))
  | (refine' Dr.trans ?aa (by assumption); (case aa => walk_at "dr")))

local macro_rules | `(tactic| walk_at "hp") => `(tactic| first | with_reducible assumption | (with_reducible refine' ExAt.same (by with_reducible assumption) ?hq; (case hq => walk_at "hp")))
variable {W : Wd} {a : Ad}
def loads (a : Ad) (v : V) : List (Addr × List (Str × V)) := [(a.InvalidNumber, [("value", v)]), (a.InvalidName, [("value", v)]), (a.InvalidServers, [("value", v)]), (a.InvalidTasks, [("value", v)]), (a.InvalidWork, [("value", v)]), (a.InvalidYard, [("value", v)]), (a.InvalidAmounts, [("value", v)]), (a.InvalidPlan, [("value", v)]), (a.InvalidGift, [("value", v)]), (a.InvalidShare, [("value", v)]), (a.InvalidBounds, [("value", v)]), (a.InvalidAssignment, [("value", v)]), (a.InvalidClaim, [("value", v)]), (a.InvalidCommand, [("value", v)]), (a.InvalidMoves, [("position", v)]), (a.InvalidLines, [("position", v)]), (a.InvalidSpeed, [("server", v)]), (a.InvalidTask, [("name", v)]), (a.WrongSum, [("name", v)]), (a.InvalidText, [("line", v)])]
def others (a : Ad) (v w : V) : List (Addr × List (Str × V)) := [(a.UnknownServer, [("value", v)]), (a.UnknownTask, [("value", v)]), (a.UnknownPlace, [("value", v)]), (a.ServerTaken, [("value", v)]), (a.TaskTaken, [("value", v)]), (a.PlaceTaken, [("value", v)]), (a.LastPlace, [("value", v)]), (a.OutOfSpan, [("value", v)]), (a.NotWhole, [("value", v)]), (a.OtherServers, [("other", w), ("one", v)]), (a.OtherYard, [("other", w), ("one", v)]), (a.Impossible, [("position", v)]), (a.CommandFailed, [("position", v)]), (a.Overfull, [("bar", v)]), (a.NothingToUndo, []), (a.DividedByZero, []), (a.TooMany, [("limit", w), ("what", v)])]
def spLoad (a : Ad) : Sp := fun vs H Q _ => ∃ v, vs = [v] ∧ ∀ r H' xs, H r = none → Same H H' → H' r = some (.lst (xs.map V.ref)) → ExL H' xs (loads a v) → Q (.ref r) H'
theorem k_law_load_errors (T : Txt W.K W.mg a) : Cl W 3 "_law_load_errors" (spLoad a) := by
  refine cl_of' T.d_law_load_errors sc_law_load_errors bd_law_load_errors (fun vs H Q E h => by obtain ⟨v, h, _⟩ := h; rw [h]; rfl) fun f cdv A outer s H vs Q E hr h => ?_
  obtain ⟨v, rfl, q⟩ := h
  refine ⟨_, (pss_cons (ps_set (i := 1) sc_law_load_errors.nd rfl (Or.inl rfl) (pe_lst (pa_cons (pe_mkx (mx_InvalidNumber T) hr (by decide) (by rfl) (pa_cons (pv 0) pa_nil)) (pa_cons (pe_mkx (mx_InvalidName T) hr (by decide) (by rfl) (pa_cons (pv 0) pa_nil)) (pa_cons (pe_mkx (mx_InvalidServers T) hr (by decide) (by rfl) (pa_cons (pv 0) pa_nil)) (pa_cons (pe_mkx (mx_InvalidTasks T) hr (by decide) (by rfl) (pa_cons (pv 0) pa_nil)) (pa_cons (pe_mkx (mx_InvalidWork T) hr (by decide) (by rfl) (pa_cons (pv 0) pa_nil)) pa_nil))))))) (pss_cons (ps_set (i := 1) sc_law_load_errors.nd rfl (Or.inl rfl) (pe_op op_addU (pv 1) (pe_lst (pa_cons (pe_mkx (mx_InvalidYard T) hr (by decide) (by rfl) (pa_cons (pv 0) pa_nil)) (pa_cons (pe_mkx (mx_InvalidAmounts T) hr (by decide) (by rfl) (pa_cons (pv 0) pa_nil)) (pa_cons (pe_mkx (mx_InvalidPlan T) hr (by decide) (by rfl) (pa_cons (pv 0) pa_nil)) (pa_cons (pe_mkx (mx_InvalidGift T) hr (by decide) (by rfl) (pa_cons (pv 0) pa_nil)) (pa_cons (pe_mkx (mx_InvalidShare T) hr (by decide) (by rfl) (pa_cons (pv 0) pa_nil)) pa_nil)))))))) (pss_cons (ps_set (i := 1) sc_law_load_errors.nd rfl (Or.inl rfl) (pe_op op_addU (pv 1) (pe_lst (pa_cons (pe_mkx (mx_InvalidBounds T) hr (by decide) (by rfl) (pa_cons (pv 0) pa_nil)) (pa_cons (pe_mkx (mx_InvalidAssignment T) hr (by decide) (by rfl) (pa_cons (pv 0) pa_nil)) (pa_cons (pe_mkx (mx_InvalidClaim T) hr (by decide) (by rfl) (pa_cons (pv 0) pa_nil)) (pa_cons (pe_mkx (mx_InvalidCommand T) hr (by decide) (by rfl) (pa_cons (pv 0) pa_nil)) pa_nil))))))) (pss_cons (ps_set (i := 1) sc_law_load_errors.nd rfl (Or.inl rfl) (pe_op op_addU (pv 1) (pe_lst (pa_cons (pe_mkx (mx_InvalidMoves T) hr (by decide) (by rfl) (pa_cons (pv 0) pa_nil)) (pa_cons (pe_mkx (mx_InvalidLines T) hr (by decide) (by rfl) (pa_cons (pv 0) pa_nil)) (pa_cons (pe_mkx (mx_InvalidSpeed T) hr (by decide) (by rfl) (pa_cons (pv 0) pa_nil)) (pa_cons (pe_mkx (mx_InvalidTask T) hr (by decide) (by rfl) (pa_cons (pv 0) pa_nil)) (pa_cons (pe_mkx (mx_WrongSum T) hr (by decide) (by rfl) (pa_cons (pv 0) pa_nil)) pa_nil)))))))) (pss_one (ps_ret (pe_op op_addU (pv 1) (pe_lst (pa_cons (pe_mkx (mx_InvalidText T) hr (by decide) (by rfl) (pa_cons (pv 0) pa_nil)) pa_nil))))))))), ?_⟩
  refine i_start (σ' := [some v, none]) rfl ?_
  repeat walk_at "rd"
  refine i_mx1 fun x1 H1 n1 s1 e1 => ?_
  repeat walk_at "rd"
  refine i_mx1 fun x2 H2 n2 s2 e2 => ?_
  repeat walk_at "rd"
  refine i_mx1 fun x3 H3 n3 s3 e3 => ?_
  repeat walk_at "rd"
  refine i_mx1 fun x4 H4 n4 s4 e4 => ?_
  repeat walk_at "rd"
  refine i_mx1 fun x5 H5 n5 s5 e5 => ?_
  repeat walk_at "rd"
  refine i_mkL (by show 5 ≤ 1000; decide) fun l6 H6 n6 h6 s6 => ?_
  repeat walk_at "rd"
  refine i_mx1 fun x7 H7 n7 s7 e7 => ?_
  repeat walk_at "rd"
  refine i_mx1 fun x8 H8 n8 s8 e8 => ?_
  repeat walk_at "rd"
  refine i_mx1 fun x9 H9 n9 s9 e9 => ?_
  repeat walk_at "rd"
  refine i_mx1 fun x10 H10 n10 s10 e10 => ?_
  repeat walk_at "rd"
  refine i_mx1 fun x11 H11 n11 s11 e11 => ?_
  repeat walk_at "rd"
  refine i_mkL (by show 5 ≤ 1000; decide) fun l12 H12 n12 h12 s12 => ?_
  repeat walk_at "rd"
  refine i_cat (by walk_at "hp") h12 (by show 10 ≤ 1000; decide) fun l13 H13 n13 h13 s13 => ?_
  repeat walk_at "rd"
  refine i_mx1 fun x14 H14 n14 s14 e14 => ?_
  repeat walk_at "rd"
  refine i_mx1 fun x15 H15 n15 s15 e15 => ?_
  repeat walk_at "rd"
  refine i_mx1 fun x16 H16 n16 s16 e16 => ?_
  repeat walk_at "rd"
  refine i_mx1 fun x17 H17 n17 s17 e17 => ?_
  repeat walk_at "rd"
  refine i_mkL (by show 4 ≤ 1000; decide) fun l18 H18 n18 h18 s18 => ?_
  repeat walk_at "rd"
  refine i_cat (by walk_at "hp") h18 (by show 14 ≤ 1000; decide) fun l19 H19 n19 h19 s19 => ?_
  repeat walk_at "rd"
  refine i_mx1 fun x20 H20 n20 s20 e20 => ?_
  repeat walk_at "rd"
  refine i_mx1 fun x21 H21 n21 s21 e21 => ?_
  repeat walk_at "rd"
  refine i_mx1 fun x22 H22 n22 s22 e22 => ?_
  repeat walk_at "rd"
  refine i_mx1 fun x23 H23 n23 s23 e23 => ?_
  repeat walk_at "rd"
  refine i_mx1 fun x24 H24 n24 s24 e24 => ?_
  repeat walk_at "rd"
  refine i_mkL (by show 5 ≤ 1000; decide) fun l25 H25 n25 h25 s25 => ?_
  repeat walk_at "rd"
  refine i_cat (by walk_at "hp") h25 (by show 19 ≤ 1000; decide) fun l26 H26 n26 h26 s26 => ?_
  repeat walk_at "rd"
  refine i_mx1 fun x27 H27 n27 s27 e27 => ?_
  repeat walk_at "rd"
  refine i_mkL (by show 1 ≤ 1000; decide) fun l28 H28 n28 h28 s28 => ?_
  repeat walk_at "rd"
  refine i_cat (by walk_at "hp") h28 (by show 20 ≤ 1000; decide) fun l29 H29 n29 h29 s29 => ?_
  repeat walk_at "rd"
  refine q l29 H29 [x1, x2, x3, x4, x5, x7, x8, x9, x10, x11, x14, x15, x16, x17, x20, x21, x22, x23, x24, x27] (Same.free ?_ n29) ?_ h29 ?_
  · walk_at "sm"
  · walk_at "sm"
  · exact ⟨by walk_at "hp", by walk_at "hp", by walk_at "hp", by walk_at "hp", by walk_at "hp", by walk_at "hp", by walk_at "hp", by walk_at "hp", by walk_at "hp", by walk_at "hp", by walk_at "hp", by walk_at "hp", by walk_at "hp", by walk_at "hp", by walk_at "hp", by walk_at "hp", by walk_at "hp", by walk_at "hp", by walk_at "hp", by walk_at "hp", True.intro⟩
def spOther (a : Ad) : Sp := fun vs H Q _ => ∃ v w : V, vs = [v, w] ∧ ∀ r H' xs, H r = none → Same H H' → H' r = some (.lst (xs.map V.ref)) → ExL H' xs (others a v w) → Q (.ref r) H'
theorem k_law_other_errors (T : Txt W.K W.mg a) : Cl W 3 "_law_other_errors" (spOther a) := by
  refine cl_of' T.d_law_other_errors sc_law_other_errors bd_law_other_errors (fun vs H Q E h => by obtain ⟨v, w, h, _⟩ := h; rw [h]; rfl) fun f cdv A outer s H vs Q E hr h => ?_
  obtain ⟨v, w, rfl, q⟩ := h
  refine ⟨_, (pss_cons (ps_set (i := 2) sc_law_other_errors.nd rfl (Or.inl rfl) (pe_lst (pa_cons (pe_mkx (mx_UnknownServer T) hr (by decide) (by rfl) (pa_cons (pv 0) pa_nil)) (pa_cons (pe_mkx (mx_UnknownTask T) hr (by decide) (by rfl) (pa_cons (pv 0) pa_nil)) (pa_cons (pe_mkx (mx_UnknownPlace T) hr (by decide) (by rfl) (pa_cons (pv 0) pa_nil)) (pa_cons (pe_mkx (mx_ServerTaken T) hr (by decide) (by rfl) (pa_cons (pv 0) pa_nil)) (pa_cons (pe_mkx (mx_TaskTaken T) hr (by decide) (by rfl) (pa_cons (pv 0) pa_nil)) pa_nil))))))) (pss_cons (ps_set (i := 2) sc_law_other_errors.nd rfl (Or.inl rfl) (pe_op op_addU (pv 2) (pe_lst (pa_cons (pe_mkx (mx_PlaceTaken T) hr (by decide) (by rfl) (pa_cons (pv 0) pa_nil)) (pa_cons (pe_mkx (mx_LastPlace T) hr (by decide) (by rfl) (pa_cons (pv 0) pa_nil)) (pa_cons (pe_mkx (mx_OutOfSpan T) hr (by decide) (by rfl) (pa_cons (pv 0) pa_nil)) (pa_cons (pe_mkx (mx_NotWhole T) hr (by decide) (by rfl) (pa_cons (pv 0) pa_nil)) (pa_cons (pe_mkx (mx_OtherServers T) hr (by decide) (by rfl) (pa_cons (pv 0) (pa_cons (pv 1) pa_nil))) pa_nil)))))))) (pss_cons (ps_set (i := 2) sc_law_other_errors.nd rfl (Or.inl rfl) (pe_op op_addU (pv 2) (pe_lst (pa_cons (pe_mkx (mx_OtherYard T) hr (by decide) (by rfl) (pa_cons (pv 0) (pa_cons (pv 1) pa_nil))) (pa_cons (pe_mkx (mx_Impossible T) hr (by decide) (by rfl) (pa_cons (pv 0) pa_nil)) (pa_cons (pe_mkx (mx_CommandFailed T) hr (by decide) (by rfl) (pa_cons (pv 0) pa_nil)) (pa_cons (pe_mkx (mx_Overfull T) hr (by decide) (by rfl) (pa_cons (pv 0) pa_nil)) (pa_cons (pe_mkx0 (mx_NothingToUndo T) hr (by decide) (by rfl)) pa_nil)))))))) (pss_one (ps_ret (pe_op op_addU (pv 2) (pe_lst (pa_cons (pe_mkx0 (mx_DividedByZero T) hr (by decide) (by rfl)) (pa_cons (pe_mkx (mx_TooMany T) hr (by decide) (by rfl) (pa_cons (pv 0) (pa_cons (pv 1) pa_nil))) pa_nil))))))))), ?_⟩
  refine i_start (σ' := [some v, some w, none]) rfl ?_
  repeat walk_at "rd"
  refine i_mx1 fun x1 H1 n1 s1 e1 => ?_
  repeat walk_at "rd"
  refine i_mx1 fun x2 H2 n2 s2 e2 => ?_
  repeat walk_at "rd"
  refine i_mx1 fun x3 H3 n3 s3 e3 => ?_
  repeat walk_at "rd"
  refine i_mx1 fun x4 H4 n4 s4 e4 => ?_
  repeat walk_at "rd"
  refine i_mx1 fun x5 H5 n5 s5 e5 => ?_
  repeat walk_at "rd"
  refine i_mkL (by show 5 ≤ 1000; decide) fun l6 H6 n6 h6 s6 => ?_
  repeat walk_at "rd"
  refine i_mx1 fun x7 H7 n7 s7 e7 => ?_
  repeat walk_at "rd"
  refine i_mx1 fun x8 H8 n8 s8 e8 => ?_
  repeat walk_at "rd"
  refine i_mx1 fun x9 H9 n9 s9 e9 => ?_
  repeat walk_at "rd"
  refine i_mx1 fun x10 H10 n10 s10 e10 => ?_
  repeat walk_at "rd"
  refine i_mx2 fun x11 H11 n11 s11 e11 => ?_
  repeat walk_at "rd"
  refine i_mkL (by show 5 ≤ 1000; decide) fun l12 H12 n12 h12 s12 => ?_
  repeat walk_at "rd"
  refine i_cat (by walk_at "hp") h12 (by show 10 ≤ 1000; decide) fun l13 H13 n13 h13 s13 => ?_
  repeat walk_at "rd"
  refine i_mx2 fun x14 H14 n14 s14 e14 => ?_
  repeat walk_at "rd"
  refine i_mx1 fun x15 H15 n15 s15 e15 => ?_
  repeat walk_at "rd"
  refine i_mx1 fun x16 H16 n16 s16 e16 => ?_
  repeat walk_at "rd"
  refine i_mx1 fun x17 H17 n17 s17 e17 => ?_
  repeat walk_at "rd"
  refine i_mx0 fun x18 H18 n18 s18 e18 => ?_
  repeat walk_at "rd"
  refine i_mkL (by show 5 ≤ 1000; decide) fun l19 H19 n19 h19 s19 => ?_
  repeat walk_at "rd"
  refine i_cat (by walk_at "hp") h19 (by show 15 ≤ 1000; decide) fun l20 H20 n20 h20 s20 => ?_
  repeat walk_at "rd"
  refine i_mx0 fun x21 H21 n21 s21 e21 => ?_
  repeat walk_at "rd"
  refine i_mx2 fun x22 H22 n22 s22 e22 => ?_
  repeat walk_at "rd"
  refine i_mkL (by show 2 ≤ 1000; decide) fun l23 H23 n23 h23 s23 => ?_
  repeat walk_at "rd"
  refine i_cat (by walk_at "hp") h23 (by show 17 ≤ 1000; decide) fun l24 H24 n24 h24 s24 => ?_
  repeat walk_at "rd"
  refine q l24 H24 [x1, x2, x3, x4, x5, x7, x8, x9, x10, x11, x14, x15, x16, x17, x18, x21, x22] (Same.free ?_ n24) ?_ h24 ?_
  · walk_at "sm"
  · walk_at "sm"
  · exact ⟨by walk_at "hp", by walk_at "hp", by walk_at "hp", by walk_at "hp", by walk_at "hp", by walk_at "hp", by walk_at "hp", by walk_at "hp", by walk_at "hp", by walk_at "hp", by walk_at "hp", by walk_at "hp", by walk_at "hp", by walk_at "hp", by walk_at "hp", by walk_at "hp", by walk_at "hp", True.intro⟩
end Lw

namespace Lw
open PySem PySem.Spec PyProof.Rows L2 Ly
local macro_rules | `(tactic| walk_at "rd") => `(tactic| first
  | ((with_reducible refine' i_var ?hv ?_); (case hv => exact rfl))
  | with_reducible refine i_c ?_
  | with_reducible refine i_op ?_
  | with_reducible refine i_cons ?_
  | with_reducible refine i_nil ?_
  | with_reducible refine i_cb ?_
  | with_reducible refine i_call ?_
  | with_reducible refine i_I0 ?_
  | with_reducible refine i_add_i ?_
  | with_reducible refine i_sub_i ?_
  | with_reducible refine i_md_i (by first | decide | assumption) ?_
  | ((with_reducible refine' i_md_i ?c ?_); rotate_left)
  | ((with_reducible refine' i_mul_i ?c ?_); rotate_left)
  | with_reducible refine i_fd_i (by decide) ?_
  | ((with_reducible refine' i_fd_i ?c ?_); rotate_left)
  | with_reducible refine i_int ?_
  | with_reducible refine i_abs ?_
  | with_reducible refine i_max2 ?_
  | with_reducible refine i_min2 ?_
  | with_reducible refine i_gcd ?_
  | with_reducible refine i_seq ?_
  | with_reducible refine i_if ?_
  | with_reducible refine i_asg ?_
  | with_reducible refine i_ret ?_
  | with_reducible refine i_drop ?_
  | with_reducible refine i_next ?_
  | with_reducible refine i_un ?_
  | with_reducible refine i_U ?_
  | ((with_reducible refine i_gname ?_); dsimp only [List.set])
  | with_reducible refine i_test ?_
  | with_reducible refine i_not ?_
  | with_reducible refine i_or ?_
  | with_reducible refine i_and ?_
  | with_reducible refine i_tb ?_
  | with_reducible refine i_andV ?_
  | with_reducible refine i_orV ?_
  | with_reducible refine i_notV ?_
  | with_reducible refine i_ifx ?_
  | with_reducible refine i_ext ?_
  | with_reducible refine i_exf ?_
  | with_reducible refine i_exn ?_
  | with_reducible refine i_itt ?_
  | with_reducible refine i_itf ?_
  | with_reducible refine i_gsub ?_
  | with_reducible refine i_nt ?_
  | with_reducible refine i_tup ?_
  | with_reducible refine i_lst ?_
  | with_reducible refine i_nf ?_
  | with_reducible refine i_isint ?_
  | ((with_reducible refine' i_top ?r ?_); (case r => walk_at "hp"))
  | ((with_reducible refine' i_bot ?r ?_); (case r => walk_at "hp"))
  | with_reducible refine i_fld ?_
  | with_reducible refine i_sfld ?_
  | with_reducible refine i_pp ?_
  | with_reducible refine i_meth ?_
  | with_reducible refine i_smeth ?_
  | with_reducible refine i_make ?_
  | with_reducible refine i_sl ?_
  | with_reducible refine i_noPart ?_
  | with_reducible refine i_part ?_
  | with_reducible refine i_smethK ?_
  | with_reducible refine i_sk1 ?_
  | with_reducible refine i_makeK ?_
  | with_reducible refine i_methK ?_
  | with_reducible refine i_mk11 ?_
  | ((with_reducible refine' i_rmk ?r ?h1 ?h2 ?_); (case r => walk_at "hp"); (case h1 => decide +kernel); (case h2 => decide +kernel))
  | with_reducible refine i_tpar ?_
  | ((with_reducible refine i_rpar ?_); dsimp only [List.set])
  | with_reducible refine i_eq_s rfl ?_
  | with_reducible refine i_ne_s rfl ?_
  | ((with_reducible refine' i_rtop ?r ?c ?n ?_); (case r => walk_at "hp"); (case c => assumption); (case n => assumption))
  | ((with_reducible refine' i_rbot ?r ?c ?n ?_); (case r => walk_at "hp"); (case c => assumption); (case n => assumption))
  | ((with_reducible refine' i_rpp ?r ?_); (case r => walk_at "hp"))
  | ((with_reducible refine' i_rmeth ?r ?h1 ?h2 ?_); (case r => walk_at "hp"); (case h1 => decide +kernel); (case h2 => decide +kernel))
  | ((with_reducible refine' i_ix_l ?hp ?ha ?_); (case hp => walk_at "hp"); (case ha => exact rfl))
  | ((with_reducible refine' i_len_l ?hp ?_); (case hp => walk_at "hp"))
  | ((with_reducible refine' i_ix_f0 ?hp ?_); (case hp => walk_at "hp"))
  | ((with_reducible refine' i_ix_f1 ?hp ?_); (case hp => walk_at "hp"))
  | ((with_reducible refine' i_ix_t ?hp ?ha ?_); (case hp => walk_at "hp"); (case ha => exact rfl)))
local macro_rules | `(tactic| walk_at "hp") => `(tactic| first
  | assumption
  | exact upd_same
  | exact SqL.of (by assumption)
  | (refine' Dr.tup (by assumption) ?hq; (case hq => walk_at "hp"))
  | (refine' FrL.same (by assumption) ?hq; (case hq => walk_at "hp"))
  | (refine' FracAt.same (by assumption) ?hq; (case hq => walk_at "hp"))
  | (refine' FracAt.nl (by assumption) ?hq; (case hq => walk_at "hp"))
  | (refine' RatAt.nl (by assumption) ?hq; (case hq => walk_at "hp"))
  | (refine' Num.nl (by assumption) ?hq; (case hq => walk_at "hp"))
  | (refine' FracAt.pk (by assumption) ?hq; (case hq => walk_at "hp"))
  | (refine' RatAt.pk (by assumption) ?hq; (case hq => walk_at "hp"))
  | (refine' Num.pk (by assumption) ?hq; (case hq => walk_at "hp"))
  | (refine' Dr.keep (by assumption) _ _ (by assumption) ?hq; (case hq => walk_at "hp"))
  | (refine' (show Same _ _ by assumption) _ _ ?hq; (case hq => walk_at "hp"))
  | (refine' RatAt.same (by assumption) ?hq; (case hq => walk_at "hp"))
  | (refine' Num.same (by assumption) ?hq; (case hq => walk_at "hp")))
local macro_rules | `(tactic| walk_at "sm") => `(tactic| first
  | assumption
  | exact Same.refl _
  | (refine' Same.kl (by assumption) (by assumption) ?aa; (case aa => walk_at "sm"))
  | (refine' Same.trans ?aa (by assumption); (case aa => walk_at "sm")))
local macro_rules | `(tactic| walk_at "dr") => `(tactic| first
  | assumption
  | (refine' Dr.same ?aa (by assumption); (case aa => walk_at "dr"))
  | (refine' Dr.trans ?aa (by assumption); (case aa => walk_at "dr")))

variable {W : Wd} {a : Ad}
def kinds (a : Ad) : List (Addr × Nat) := [(a.InvalidNumber, 0), (a.InvalidName, 0), (a.InvalidServers, 0), (a.InvalidTasks, 0), (a.InvalidWork, 0), (a.InvalidYard, 0), (a.InvalidAmounts, 0), (a.InvalidPlan, 0), (a.InvalidGift, 0), (a.InvalidShare, 0), (a.InvalidBounds, 0), (a.InvalidAssignment, 0), (a.InvalidClaim, 0), (a.InvalidCommand, 0), (a.InvalidMoves, 0), (a.InvalidLines, 0), (a.InvalidSpeed, 0), (a.InvalidTask, 0), (a.WrongSum, 0), (a.InvalidText, 0), (a.UnknownServer, 1), (a.UnknownTask, 1), (a.UnknownPlace, 1), (a.ServerTaken, 2), (a.TaskTaken, 2), (a.PlaceTaken, 2), (a.LastPlace, 2), (a.OutOfSpan, 2), (a.NotWhole, 2), (a.OtherServers, 2), (a.OtherYard, 2), (a.Impossible, 2), (a.CommandFailed, 2), (a.Overfull, 2), (a.NothingToUndo, 2), (a.DividedByZero, 3), (a.TooMany, 3)]
def lf (a : Ad) : List Addr := [a.InvalidNumber, a.InvalidName, a.InvalidServers, a.InvalidTasks, a.InvalidWork, a.InvalidYard, a.InvalidAmounts, a.InvalidPlan, a.InvalidGift, a.InvalidShare, a.InvalidBounds, a.InvalidAssignment, a.InvalidClaim, a.InvalidCommand, a.InvalidMoves, a.InvalidLines, a.InvalidSpeed, a.InvalidTask, a.WrongSum, a.InvalidText, a.UnknownServer, a.UnknownTask, a.UnknownPlace, a.ServerTaken, a.TaskTaken, a.PlaceTaken, a.LastPlace, a.OutOfSpan, a.NotWhole, a.OtherServers, a.OtherYard, a.Impossible, a.CommandFailed, a.Overfull, a.NothingToUndo, a.DividedByZero, a.TooMany]
def bs (a : Ad) : List Addr := [a.LoadError, a.MissingError, a.StateError, a.LimitError]
def bAd (a : Ad) : Nat → Addr
  | 0 => a.LoadError
  | 1 => a.MissingError
  | 2 => a.StateError
  | _ => a.LimitError
def bTy : Nat → String
  | 0 => "ValueError"
  | 1 => "LookupError"
  | 2 => "RuntimeError"
  | _ => "ArithmeticError"
def mr (a : Ad) (c : Addr × Nat) : List Value := [.ref c.1, .ref (bAd a c.2), .type (bTy c.2), .type "Exception", .type "BaseException", .type "object"]
theorem mro_leaf (T : Txt W.K W.mg a) {c : Addr × Nat} (hc : c ∈ kinds a) : MroIs W.K c.1 (mr a c) := by
  rcases List.mem_cons.mp hc with rfl | hc
  · exact T.m_InvalidNumber
  rcases List.mem_cons.mp hc with rfl | hc
  · exact T.m_InvalidName
  rcases List.mem_cons.mp hc with rfl | hc
  · exact T.m_InvalidServers
  rcases List.mem_cons.mp hc with rfl | hc
  · exact T.m_InvalidTasks
  rcases List.mem_cons.mp hc with rfl | hc
  · exact T.m_InvalidWork
  rcases List.mem_cons.mp hc with rfl | hc
  · exact T.m_InvalidYard
  rcases List.mem_cons.mp hc with rfl | hc
  · exact T.m_InvalidAmounts
  rcases List.mem_cons.mp hc with rfl | hc
  · exact T.m_InvalidPlan
  rcases List.mem_cons.mp hc with rfl | hc
  · exact T.m_InvalidGift
  rcases List.mem_cons.mp hc with rfl | hc
  · exact T.m_InvalidShare
  rcases List.mem_cons.mp hc with rfl | hc
  · exact T.m_InvalidBounds
  rcases List.mem_cons.mp hc with rfl | hc
  · exact T.m_InvalidAssignment
  rcases List.mem_cons.mp hc with rfl | hc
  · exact T.m_InvalidClaim
  rcases List.mem_cons.mp hc with rfl | hc
  · exact T.m_InvalidCommand
  rcases List.mem_cons.mp hc with rfl | hc
  · exact T.m_InvalidMoves
  rcases List.mem_cons.mp hc with rfl | hc
  · exact T.m_InvalidLines
  rcases List.mem_cons.mp hc with rfl | hc
  · exact T.m_InvalidSpeed
  rcases List.mem_cons.mp hc with rfl | hc
  · exact T.m_InvalidTask
  rcases List.mem_cons.mp hc with rfl | hc
  · exact T.m_WrongSum
  rcases List.mem_cons.mp hc with rfl | hc
  · exact T.m_InvalidText
  rcases List.mem_cons.mp hc with rfl | hc
  · exact T.m_UnknownServer
  rcases List.mem_cons.mp hc with rfl | hc
  · exact T.m_UnknownTask
  rcases List.mem_cons.mp hc with rfl | hc
  · exact T.m_UnknownPlace
  rcases List.mem_cons.mp hc with rfl | hc
  · exact T.m_ServerTaken
  rcases List.mem_cons.mp hc with rfl | hc
  · exact T.m_TaskTaken
  rcases List.mem_cons.mp hc with rfl | hc
  · exact T.m_PlaceTaken
  rcases List.mem_cons.mp hc with rfl | hc
  · exact T.m_LastPlace
  rcases List.mem_cons.mp hc with rfl | hc
  · exact T.m_OutOfSpan
  rcases List.mem_cons.mp hc with rfl | hc
  · exact T.m_NotWhole
  rcases List.mem_cons.mp hc with rfl | hc
  · exact T.m_OtherServers
  rcases List.mem_cons.mp hc with rfl | hc
  · exact T.m_OtherYard
  rcases List.mem_cons.mp hc with rfl | hc
  · exact T.m_Impossible
  rcases List.mem_cons.mp hc with rfl | hc
  · exact T.m_CommandFailed
  rcases List.mem_cons.mp hc with rfl | hc
  · exact T.m_Overfull
  rcases List.mem_cons.mp hc with rfl | hc
  · exact T.m_NothingToUndo
  rcases List.mem_cons.mp hc with rfl | hc
  · exact T.m_DividedByZero
  rcases List.mem_cons.mp hc with rfl | hc
  · exact T.m_TooMany
  cases hc
theorem exk_leaf (T : Txt W.K W.mg a) {c : Addr × Nat} (hc : c ∈ kinds a) : ExK W.K c.1 := by
  rcases List.mem_cons.mp hc with rfl | hc
  · exact T.e_InvalidNumber.xk
  rcases List.mem_cons.mp hc with rfl | hc
  · exact T.e_InvalidName.xk
  rcases List.mem_cons.mp hc with rfl | hc
  · exact T.e_InvalidServers.xk
  rcases List.mem_cons.mp hc with rfl | hc
  · exact T.e_InvalidTasks.xk
  rcases List.mem_cons.mp hc with rfl | hc
  · exact T.e_InvalidWork.xk
  rcases List.mem_cons.mp hc with rfl | hc
  · exact T.e_InvalidYard.xk
  rcases List.mem_cons.mp hc with rfl | hc
  · exact T.e_InvalidAmounts.xk
  rcases List.mem_cons.mp hc with rfl | hc
  · exact T.e_InvalidPlan.xk
  rcases List.mem_cons.mp hc with rfl | hc
  · exact T.e_InvalidGift.xk
  rcases List.mem_cons.mp hc with rfl | hc
  · exact T.e_InvalidShare.xk
  rcases List.mem_cons.mp hc with rfl | hc
  · exact T.e_InvalidBounds.xk
  rcases List.mem_cons.mp hc with rfl | hc
  · exact T.e_InvalidAssignment.xk
  rcases List.mem_cons.mp hc with rfl | hc
  · exact T.e_InvalidClaim.xk
  rcases List.mem_cons.mp hc with rfl | hc
  · exact T.e_InvalidCommand.xk
  rcases List.mem_cons.mp hc with rfl | hc
  · exact T.e_InvalidMoves.xk
  rcases List.mem_cons.mp hc with rfl | hc
  · exact T.e_InvalidLines.xk
  rcases List.mem_cons.mp hc with rfl | hc
  · exact T.e_InvalidSpeed.xk
  rcases List.mem_cons.mp hc with rfl | hc
  · exact T.e_InvalidTask.xk
  rcases List.mem_cons.mp hc with rfl | hc
  · exact T.e_WrongSum.xk
  rcases List.mem_cons.mp hc with rfl | hc
  · exact T.e_InvalidText.xk
  rcases List.mem_cons.mp hc with rfl | hc
  · exact T.e_UnknownServer.xk
  rcases List.mem_cons.mp hc with rfl | hc
  · exact T.e_UnknownTask.xk
  rcases List.mem_cons.mp hc with rfl | hc
  · exact T.e_UnknownPlace.xk
  rcases List.mem_cons.mp hc with rfl | hc
  · exact T.e_ServerTaken.xk
  rcases List.mem_cons.mp hc with rfl | hc
  · exact T.e_TaskTaken.xk
  rcases List.mem_cons.mp hc with rfl | hc
  · exact T.e_PlaceTaken.xk
  rcases List.mem_cons.mp hc with rfl | hc
  · exact T.e_LastPlace.xk
  rcases List.mem_cons.mp hc with rfl | hc
  · exact T.e_OutOfSpan.xk
  rcases List.mem_cons.mp hc with rfl | hc
  · exact T.e_NotWhole.xk
  rcases List.mem_cons.mp hc with rfl | hc
  · exact T.e_OtherServers.xk
  rcases List.mem_cons.mp hc with rfl | hc
  · exact T.e_OtherYard.xk
  rcases List.mem_cons.mp hc with rfl | hc
  · exact T.e_Impossible.xk
  rcases List.mem_cons.mp hc with rfl | hc
  · exact T.e_CommandFailed.xk
  rcases List.mem_cons.mp hc with rfl | hc
  · exact T.e_Overfull.xk
  rcases List.mem_cons.mp hc with rfl | hc
  · exact T.e_NothingToUndo.xk
  rcases List.mem_cons.mp hc with rfl | hc
  · exact T.e_DividedByZero.xk
  rcases List.mem_cons.mp hc with rfl | hc
  · exact T.e_TooMany.xk
  cases hc
theorem lf_leaf (T : Txt W.K W.mg a) {c : Addr × Nat} (hc : c ∈ kinds a) : c.1 ∈ lf a := by
  rcases List.mem_cons.mp hc with rfl | hc
  · exact List.mem_of_getElem? (l := lf a) (i := 0) rfl
  rcases List.mem_cons.mp hc with rfl | hc
  · exact List.mem_of_getElem? (l := lf a) (i := 1) rfl
  rcases List.mem_cons.mp hc with rfl | hc
  · exact List.mem_of_getElem? (l := lf a) (i := 2) rfl
  rcases List.mem_cons.mp hc with rfl | hc
  · exact List.mem_of_getElem? (l := lf a) (i := 3) rfl
  rcases List.mem_cons.mp hc with rfl | hc
  · exact List.mem_of_getElem? (l := lf a) (i := 4) rfl
  rcases List.mem_cons.mp hc with rfl | hc
  · exact List.mem_of_getElem? (l := lf a) (i := 5) rfl
  rcases List.mem_cons.mp hc with rfl | hc
  · exact List.mem_of_getElem? (l := lf a) (i := 6) rfl
  rcases List.mem_cons.mp hc with rfl | hc
  · exact List.mem_of_getElem? (l := lf a) (i := 7) rfl
  rcases List.mem_cons.mp hc with rfl | hc
  · exact List.mem_of_getElem? (l := lf a) (i := 8) rfl
  rcases List.mem_cons.mp hc with rfl | hc
  · exact List.mem_of_getElem? (l := lf a) (i := 9) rfl
  rcases List.mem_cons.mp hc with rfl | hc
  · exact List.mem_of_getElem? (l := lf a) (i := 10) rfl
  rcases List.mem_cons.mp hc with rfl | hc
  · exact List.mem_of_getElem? (l := lf a) (i := 11) rfl
  rcases List.mem_cons.mp hc with rfl | hc
  · exact List.mem_of_getElem? (l := lf a) (i := 12) rfl
  rcases List.mem_cons.mp hc with rfl | hc
  · exact List.mem_of_getElem? (l := lf a) (i := 13) rfl
  rcases List.mem_cons.mp hc with rfl | hc
  · exact List.mem_of_getElem? (l := lf a) (i := 14) rfl
  rcases List.mem_cons.mp hc with rfl | hc
  · exact List.mem_of_getElem? (l := lf a) (i := 15) rfl
  rcases List.mem_cons.mp hc with rfl | hc
  · exact List.mem_of_getElem? (l := lf a) (i := 16) rfl
  rcases List.mem_cons.mp hc with rfl | hc
  · exact List.mem_of_getElem? (l := lf a) (i := 17) rfl
  rcases List.mem_cons.mp hc with rfl | hc
  · exact List.mem_of_getElem? (l := lf a) (i := 18) rfl
  rcases List.mem_cons.mp hc with rfl | hc
  · exact List.mem_of_getElem? (l := lf a) (i := 19) rfl
  rcases List.mem_cons.mp hc with rfl | hc
  · exact List.mem_of_getElem? (l := lf a) (i := 20) rfl
  rcases List.mem_cons.mp hc with rfl | hc
  · exact List.mem_of_getElem? (l := lf a) (i := 21) rfl
  rcases List.mem_cons.mp hc with rfl | hc
  · exact List.mem_of_getElem? (l := lf a) (i := 22) rfl
  rcases List.mem_cons.mp hc with rfl | hc
  · exact List.mem_of_getElem? (l := lf a) (i := 23) rfl
  rcases List.mem_cons.mp hc with rfl | hc
  · exact List.mem_of_getElem? (l := lf a) (i := 24) rfl
  rcases List.mem_cons.mp hc with rfl | hc
  · exact List.mem_of_getElem? (l := lf a) (i := 25) rfl
  rcases List.mem_cons.mp hc with rfl | hc
  · exact List.mem_of_getElem? (l := lf a) (i := 26) rfl
  rcases List.mem_cons.mp hc with rfl | hc
  · exact List.mem_of_getElem? (l := lf a) (i := 27) rfl
  rcases List.mem_cons.mp hc with rfl | hc
  · exact List.mem_of_getElem? (l := lf a) (i := 28) rfl
  rcases List.mem_cons.mp hc with rfl | hc
  · exact List.mem_of_getElem? (l := lf a) (i := 29) rfl
  rcases List.mem_cons.mp hc with rfl | hc
  · exact List.mem_of_getElem? (l := lf a) (i := 30) rfl
  rcases List.mem_cons.mp hc with rfl | hc
  · exact List.mem_of_getElem? (l := lf a) (i := 31) rfl
  rcases List.mem_cons.mp hc with rfl | hc
  · exact List.mem_of_getElem? (l := lf a) (i := 32) rfl
  rcases List.mem_cons.mp hc with rfl | hc
  · exact List.mem_of_getElem? (l := lf a) (i := 33) rfl
  rcases List.mem_cons.mp hc with rfl | hc
  · exact List.mem_of_getElem? (l := lf a) (i := 34) rfl
  rcases List.mem_cons.mp hc with rfl | hc
  · exact List.mem_of_getElem? (l := lf a) (i := 35) rfl
  rcases List.mem_cons.mp hc with rfl | hc
  · exact List.mem_of_getElem? (l := lf a) (i := 36) rfl
  cases hc
theorem k_leaf (T : Txt W.K W.mg a) {c : Addr × Nat} (hc : c ∈ kinds a) : c.2 = 0 ∨ c.2 = 1 ∨ c.2 = 2 ∨ c.2 = 3 := by
  rcases List.mem_cons.mp hc with rfl | hc
  · exact .inl rfl
  rcases List.mem_cons.mp hc with rfl | hc
  · exact .inl rfl
  rcases List.mem_cons.mp hc with rfl | hc
  · exact .inl rfl
  rcases List.mem_cons.mp hc with rfl | hc
  · exact .inl rfl
  rcases List.mem_cons.mp hc with rfl | hc
  · exact .inl rfl
  rcases List.mem_cons.mp hc with rfl | hc
  · exact .inl rfl
  rcases List.mem_cons.mp hc with rfl | hc
  · exact .inl rfl
  rcases List.mem_cons.mp hc with rfl | hc
  · exact .inl rfl
  rcases List.mem_cons.mp hc with rfl | hc
  · exact .inl rfl
  rcases List.mem_cons.mp hc with rfl | hc
  · exact .inl rfl
  rcases List.mem_cons.mp hc with rfl | hc
  · exact .inl rfl
  rcases List.mem_cons.mp hc with rfl | hc
  · exact .inl rfl
  rcases List.mem_cons.mp hc with rfl | hc
  · exact .inl rfl
  rcases List.mem_cons.mp hc with rfl | hc
  · exact .inl rfl
  rcases List.mem_cons.mp hc with rfl | hc
  · exact .inl rfl
  rcases List.mem_cons.mp hc with rfl | hc
  · exact .inl rfl
  rcases List.mem_cons.mp hc with rfl | hc
  · exact .inl rfl
  rcases List.mem_cons.mp hc with rfl | hc
  · exact .inl rfl
  rcases List.mem_cons.mp hc with rfl | hc
  · exact .inl rfl
  rcases List.mem_cons.mp hc with rfl | hc
  · exact .inl rfl
  rcases List.mem_cons.mp hc with rfl | hc
  · exact .inr (.inl rfl)
  rcases List.mem_cons.mp hc with rfl | hc
  · exact .inr (.inl rfl)
  rcases List.mem_cons.mp hc with rfl | hc
  · exact .inr (.inl rfl)
  rcases List.mem_cons.mp hc with rfl | hc
  · exact .inr (.inr (.inl rfl))
  rcases List.mem_cons.mp hc with rfl | hc
  · exact .inr (.inr (.inl rfl))
  rcases List.mem_cons.mp hc with rfl | hc
  · exact .inr (.inr (.inl rfl))
  rcases List.mem_cons.mp hc with rfl | hc
  · exact .inr (.inr (.inl rfl))
  rcases List.mem_cons.mp hc with rfl | hc
  · exact .inr (.inr (.inl rfl))
  rcases List.mem_cons.mp hc with rfl | hc
  · exact .inr (.inr (.inl rfl))
  rcases List.mem_cons.mp hc with rfl | hc
  · exact .inr (.inr (.inl rfl))
  rcases List.mem_cons.mp hc with rfl | hc
  · exact .inr (.inr (.inl rfl))
  rcases List.mem_cons.mp hc with rfl | hc
  · exact .inr (.inr (.inl rfl))
  rcases List.mem_cons.mp hc with rfl | hc
  · exact .inr (.inr (.inl rfl))
  rcases List.mem_cons.mp hc with rfl | hc
  · exact .inr (.inr (.inl rfl))
  rcases List.mem_cons.mp hc with rfl | hc
  · exact .inr (.inr (.inl rfl))
  rcases List.mem_cons.mp hc with rfl | hc
  · exact .inr (.inr (.inr rfl))
  rcases List.mem_cons.mp hc with rfl | hc
  · exact .inr (.inr (.inr rfl))
  cases hc
theorem nd_ab (T : Txt W.K W.mg a) : (lf a ++ bs a).Nodup := T.nd
theorem lf_bs (T : Txt W.K W.mg a) {x y : Addr} (hx : x ∈ lf a) (hy : y ∈ bs a) : x ≠ y := fun e => (List.nodup_append.mp (nd_ab T)).2.2 x hx y hy e
theorem bs_at (a : Ad) (k : Nat) : bAd a k ∈ bs a := by
  match k with
  | 0 => exact List.mem_of_getElem? (l := bs a) (i := 0) rfl
  | 1 => exact List.mem_of_getElem? (l := bs a) (i := 1) rfl
  | 2 => exact List.mem_of_getElem? (l := bs a) (i := 2) rfl
  | _ + 3 => exact List.mem_of_getElem? (l := bs a) (i := 3) rfl
theorem beq_rr (x y : Addr) : (Value.ref x == Value.ref y) = decide (x = y) := by
  by_cases h : x = y
  · rw [h, decide_eq_true rfl]
    exact beq_self_eq_true _
  · rw [decide_eq_false h]
    exact Bool.eq_false_iff.mpr fun z => h (Value.ref.inj (eq_of_beq z))
theorem beq_rt (x : Addr) (t : String) : (Value.ref x == Value.type t) = false := Bool.eq_false_iff.mpr fun z => by cases eq_of_beq z
theorem beq_tr (x : Addr) (t : String) : (Value.type t == Value.ref x) = false := Bool.eq_false_iff.mpr fun z => by cases eq_of_beq z
theorem mr_ref (a : Ad) (c : Addr × Nat) (D : Addr) : (mr a c).contains (.ref D) = (decide (D = c.1) || decide (D = bAd a c.2)) := by
  unfold mr
  simp only [List.contains_cons, List.contains_nil, beq_rr, beq_rt, Bool.or_false]
theorem kit_leaf (T : Txt W.K W.mg a) {c : Addr × Nat} (hc : c ∈ kinds a) {D : Addr} {l : List Value} (hD : D ∈ lf a) (m : MroIs W.K D l) (t : PySem.W.typeIn W.K (.ref D) = some (.type "type")) : PySem.W.kitOne W.K (.ref c.1) (.ref D) = some (decide (c.1 = D)) := by
  rw [kit_cls_of (mro_leaf T hc) (by simp [mr]) (by rw [mr_ref, decide_eq_true rfl]; rfl) m t, mr_ref, decide_eq_false (lf_bs T hD (bs_at a c.2)), Bool.or_false]
  congr 1
  by_cases h : D = c.1
  · rw [decide_eq_true h, decide_eq_true h.symm]
  · rw [decide_eq_false h, decide_eq_false fun z => h z.symm]
theorem kit_base (T : Txt W.K W.mg a) {c : Addr × Nat} (hc : c ∈ kinds a) {D : Addr} {l : List Value} (hD : D ∈ bs a) (m : MroIs W.K D l) (t : PySem.W.typeIn W.K (.ref D) = some (.type "type")) : PySem.W.kitOne W.K (.ref c.1) (.ref D) = some (decide (D = bAd a c.2)) := by
  rw [kit_cls_of (mro_leaf T hc) (by simp [mr]) (by rw [mr_ref, decide_eq_true rfl]; rfl) m t, mr_ref, decide_eq_false (fun z => lf_bs T (lf_leaf T hc) hD z.symm), Bool.false_or]
theorem kit_bty (T : Txt W.K W.mg a) {c : Addr × Nat} (hc : c ∈ kinds a) {t : String} (h : PySem.W.kitMeta t = true) : PySem.W.kitOne W.K (.ref c.1) (.type t) = some ((mr a c).contains (.type t)) := kit_ty_of (mro_leaf T hc) (by simp [mr]) h
def bB (k t : Nat) : Bool := decide (t = k) || decide (t = k + 4)
theorem kb_0 (T : Txt W.K W.mg a) {c : Addr × Nat} (hc : c ∈ kinds a) : PySem.W.kitOne W.K (.ref c.1) (.ref a.LoadError) = some (bB c.2 0) := by
  rw [kit_base T hc (List.mem_of_getElem? (l := bs a) (i := 0) rfl) T.m_LoadError T.t_LoadError]
  have nd := (List.nodup_append.mp (nd_ab T)).2.1
  congr 1
  rcases k_leaf T hc with e | e | e | e <;> rw [e] <;> first | exact decide_eq_true rfl | (refine decide_eq_false fun z => ?_; revert z nd; unfold bs bAd; simp only [List.nodup_cons, List.mem_cons, not_or]; rintro ⟨⟨h1, h2, h3, _⟩, ⟨h4, h5, _⟩, ⟨h6, _⟩, _⟩ z; first | exact h1 z | exact h2 z | exact h3 z | exact h4 z | exact h5 z | exact h6 z | exact h1 z.symm | exact h2 z.symm | exact h3 z.symm | exact h4 z.symm | exact h5 z.symm | exact h6 z.symm)
theorem kb_1 (T : Txt W.K W.mg a) {c : Addr × Nat} (hc : c ∈ kinds a) : PySem.W.kitOne W.K (.ref c.1) (.ref a.MissingError) = some (bB c.2 1) := by
  rw [kit_base T hc (List.mem_of_getElem? (l := bs a) (i := 1) rfl) T.m_MissingError T.t_MissingError]
  have nd := (List.nodup_append.mp (nd_ab T)).2.1
  congr 1
  rcases k_leaf T hc with e | e | e | e <;> rw [e] <;> first | exact decide_eq_true rfl | (refine decide_eq_false fun z => ?_; revert z nd; unfold bs bAd; simp only [List.nodup_cons, List.mem_cons, not_or]; rintro ⟨⟨h1, h2, h3, _⟩, ⟨h4, h5, _⟩, ⟨h6, _⟩, _⟩ z; first | exact h1 z | exact h2 z | exact h3 z | exact h4 z | exact h5 z | exact h6 z | exact h1 z.symm | exact h2 z.symm | exact h3 z.symm | exact h4 z.symm | exact h5 z.symm | exact h6 z.symm)
theorem kb_2 (T : Txt W.K W.mg a) {c : Addr × Nat} (hc : c ∈ kinds a) : PySem.W.kitOne W.K (.ref c.1) (.ref a.StateError) = some (bB c.2 2) := by
  rw [kit_base T hc (List.mem_of_getElem? (l := bs a) (i := 2) rfl) T.m_StateError T.t_StateError]
  have nd := (List.nodup_append.mp (nd_ab T)).2.1
  congr 1
  rcases k_leaf T hc with e | e | e | e <;> rw [e] <;> first | exact decide_eq_true rfl | (refine decide_eq_false fun z => ?_; revert z nd; unfold bs bAd; simp only [List.nodup_cons, List.mem_cons, not_or]; rintro ⟨⟨h1, h2, h3, _⟩, ⟨h4, h5, _⟩, ⟨h6, _⟩, _⟩ z; first | exact h1 z | exact h2 z | exact h3 z | exact h4 z | exact h5 z | exact h6 z | exact h1 z.symm | exact h2 z.symm | exact h3 z.symm | exact h4 z.symm | exact h5 z.symm | exact h6 z.symm)
theorem kb_3 (T : Txt W.K W.mg a) {c : Addr × Nat} (hc : c ∈ kinds a) : PySem.W.kitOne W.K (.ref c.1) (.ref a.LimitError) = some (bB c.2 3) := by
  rw [kit_base T hc (List.mem_of_getElem? (l := bs a) (i := 3) rfl) T.m_LimitError T.t_LimitError]
  have nd := (List.nodup_append.mp (nd_ab T)).2.1
  congr 1
  rcases k_leaf T hc with e | e | e | e <;> rw [e] <;> first | exact decide_eq_true rfl | (refine decide_eq_false fun z => ?_; revert z nd; unfold bs bAd; simp only [List.nodup_cons, List.mem_cons, not_or]; rintro ⟨⟨h1, h2, h3, _⟩, ⟨h4, h5, _⟩, ⟨h6, _⟩, _⟩ z; first | exact h1 z | exact h2 z | exact h3 z | exact h4 z | exact h5 z | exact h6 z | exact h1 z.symm | exact h2 z.symm | exact h3 z.symm | exact h4 z.symm | exact h5 z.symm | exact h6 z.symm)
theorem kb_4 (T : Txt W.K W.mg a) {c : Addr × Nat} (hc : c ∈ kinds a) : PySem.W.kitOne W.K (.ref c.1) (.type "ValueError") = some (bB c.2 4) := by
  rw [kit_bty T hc (by decide +kernel)]
  congr 1
  unfold mr
  simp only [List.contains_cons, List.contains_nil, beq_tr]
  rcases k_leaf T hc with e | e | e | e <;> rw [e] <;> decide +kernel
theorem kb_5 (T : Txt W.K W.mg a) {c : Addr × Nat} (hc : c ∈ kinds a) : PySem.W.kitOne W.K (.ref c.1) (.type "LookupError") = some (bB c.2 5) := by
  rw [kit_bty T hc (by decide +kernel)]
  congr 1
  unfold mr
  simp only [List.contains_cons, List.contains_nil, beq_tr]
  rcases k_leaf T hc with e | e | e | e <;> rw [e] <;> decide +kernel
theorem kb_6 (T : Txt W.K W.mg a) {c : Addr × Nat} (hc : c ∈ kinds a) : PySem.W.kitOne W.K (.ref c.1) (.type "RuntimeError") = some (bB c.2 6) := by
  rw [kit_bty T hc (by decide +kernel)]
  congr 1
  unfold mr
  simp only [List.contains_cons, List.contains_nil, beq_tr]
  rcases k_leaf T hc with e | e | e | e <;> rw [e] <;> decide +kernel
theorem kb_7 (T : Txt W.K W.mg a) {c : Addr × Nat} (hc : c ∈ kinds a) : PySem.W.kitOne W.K (.ref c.1) (.type "ArithmeticError") = some (bB c.2 7) := by
  rw [kit_bty T hc (by decide +kernel)]
  congr 1
  unfold mr
  simp only [List.contains_cons, List.contains_nil, beq_tr]
  rcases k_leaf T hc with e | e | e | e <;> rw [e] <;> decide +kernel
theorem kb_8 (T : Txt W.K W.mg a) {c : Addr × Nat} (hc : c ∈ kinds a) : PySem.W.kitOne W.K (.ref c.1) (.type "TypeError") = some (bB c.2 8) := by
  rw [kit_bty T hc (by decide +kernel)]
  congr 1
  unfold mr
  simp only [List.contains_cons, List.contains_nil, beq_tr]
  rcases k_leaf T hc with e | e | e | e <;> rw [e] <;> decide +kernel
def splaw_which_load (a : Ad) : Sp := fun vs H Q _ => ∃ (x : Addr) (c : Addr × Nat) (fs : List (Str × V)), vs = [.ref x] ∧ c ∈ kinds a ∧ ExAt H x c.1 fs ∧ ∀ r H', H r = none → Same H H' → H' r = some (.lst [V.bl (decide (c.1 = a.InvalidNumber)), V.bl (decide (c.1 = a.InvalidName)), V.bl (decide (c.1 = a.InvalidServers)), V.bl (decide (c.1 = a.InvalidTasks)), V.bl (decide (c.1 = a.InvalidWork)), V.bl (decide (c.1 = a.InvalidYard)), V.bl (decide (c.1 = a.InvalidAmounts)), V.bl (decide (c.1 = a.InvalidPlan)), V.bl (decide (c.1 = a.InvalidGift)), V.bl (decide (c.1 = a.InvalidShare)), V.bl (decide (c.1 = a.InvalidBounds)), V.bl (decide (c.1 = a.InvalidAssignment)), V.bl (decide (c.1 = a.InvalidClaim)), V.bl (decide (c.1 = a.InvalidCommand)), V.bl (decide (c.1 = a.InvalidMoves)), V.bl (decide (c.1 = a.InvalidLines)), V.bl (decide (c.1 = a.InvalidSpeed)), V.bl (decide (c.1 = a.InvalidTask)), V.bl (decide (c.1 = a.WrongSum)), V.bl (decide (c.1 = a.InvalidText))]) → Q (.ref r) H'
theorem k_law_which_load (T : Txt W.K W.mg a) : Cl W 3 "_law_which_load" (splaw_which_load a) := by
  refine cl_of' T.d_law_which_load sc_law_which_load bd_law_which_load (fun vs H Q E h => by obtain ⟨x, c, fs, h, _⟩ := h; rw [h]; rfl) fun f cdv A outer s H vs Q E hr h => ?_
  obtain ⟨x, c, fs, rfl, hc, e0, q⟩ := h
  have xk := exk_leaf T hc
  refine ⟨_, (pss_cons (ps_set (i := 1) sc_law_which_load.nd rfl (Or.inl rfl) (pe_lst (pa_cons (pe_callB (r := rIsX W.K) call_isX (by rfl) T.b_isinstance (by decide +kernel) (pa_cons (pv 0) (pa_cons (pe_gn (v := .ref a.InvalidNumber) (by rfl) T.g_InvalidNumber rfl) pa_nil))) (pa_cons (pe_callB (r := rIsX W.K) call_isX (by rfl) T.b_isinstance (by decide +kernel) (pa_cons (pv 0) (pa_cons (pe_gn (v := .ref a.InvalidName) (by rfl) T.g_InvalidName rfl) pa_nil))) (pa_cons (pe_callB (r := rIsX W.K) call_isX (by rfl) T.b_isinstance (by decide +kernel) (pa_cons (pv 0) (pa_cons (pe_gn (v := .ref a.InvalidServers) (by rfl) T.g_InvalidServers rfl) pa_nil))) pa_nil))))) (pss_cons (ps_set (i := 1) sc_law_which_load.nd rfl (Or.inl rfl) (pe_op op_addU (pv 1) (pe_lst (pa_cons (pe_callB (r := rIsX W.K) call_isX (by rfl) T.b_isinstance (by decide +kernel) (pa_cons (pv 0) (pa_cons (pe_gn (v := .ref a.InvalidTasks) (by rfl) T.g_InvalidTasks rfl) pa_nil))) (pa_cons (pe_callB (r := rIsX W.K) call_isX (by rfl) T.b_isinstance (by decide +kernel) (pa_cons (pv 0) (pa_cons (pe_gn (v := .ref a.InvalidWork) (by rfl) T.g_InvalidWork rfl) pa_nil))) (pa_cons (pe_callB (r := rIsX W.K) call_isX (by rfl) T.b_isinstance (by decide +kernel) (pa_cons (pv 0) (pa_cons (pe_gn (v := .ref a.InvalidYard) (by rfl) T.g_InvalidYard rfl) pa_nil))) pa_nil)))))) (pss_cons (ps_set (i := 1) sc_law_which_load.nd rfl (Or.inl rfl) (pe_op op_addU (pv 1) (pe_lst (pa_cons (pe_callB (r := rIsX W.K) call_isX (by rfl) T.b_isinstance (by decide +kernel) (pa_cons (pv 0) (pa_cons (pe_gn (v := .ref a.InvalidAmounts) (by rfl) T.g_InvalidAmounts rfl) pa_nil))) (pa_cons (pe_callB (r := rIsX W.K) call_isX (by rfl) T.b_isinstance (by decide +kernel) (pa_cons (pv 0) (pa_cons (pe_gn (v := .ref a.InvalidPlan) (by rfl) T.g_InvalidPlan rfl) pa_nil))) (pa_cons (pe_callB (r := rIsX W.K) call_isX (by rfl) T.b_isinstance (by decide +kernel) (pa_cons (pv 0) (pa_cons (pe_gn (v := .ref a.InvalidGift) (by rfl) T.g_InvalidGift rfl) pa_nil))) pa_nil)))))) (pss_cons (ps_set (i := 1) sc_law_which_load.nd rfl (Or.inl rfl) (pe_op op_addU (pv 1) (pe_lst (pa_cons (pe_callB (r := rIsX W.K) call_isX (by rfl) T.b_isinstance (by decide +kernel) (pa_cons (pv 0) (pa_cons (pe_gn (v := .ref a.InvalidShare) (by rfl) T.g_InvalidShare rfl) pa_nil))) (pa_cons (pe_callB (r := rIsX W.K) call_isX (by rfl) T.b_isinstance (by decide +kernel) (pa_cons (pv 0) (pa_cons (pe_gn (v := .ref a.InvalidBounds) (by rfl) T.g_InvalidBounds rfl) pa_nil))) (pa_cons (pe_callB (r := rIsX W.K) call_isX (by rfl) T.b_isinstance (by decide +kernel) (pa_cons (pv 0) (pa_cons (pe_gn (v := .ref a.InvalidAssignment) (by rfl) T.g_InvalidAssignment rfl) pa_nil))) pa_nil)))))) (pss_cons (ps_set (i := 1) sc_law_which_load.nd rfl (Or.inl rfl) (pe_op op_addU (pv 1) (pe_lst (pa_cons (pe_callB (r := rIsX W.K) call_isX (by rfl) T.b_isinstance (by decide +kernel) (pa_cons (pv 0) (pa_cons (pe_gn (v := .ref a.InvalidClaim) (by rfl) T.g_InvalidClaim rfl) pa_nil))) (pa_cons (pe_callB (r := rIsX W.K) call_isX (by rfl) T.b_isinstance (by decide +kernel) (pa_cons (pv 0) (pa_cons (pe_gn (v := .ref a.InvalidCommand) (by rfl) T.g_InvalidCommand rfl) pa_nil))) (pa_cons (pe_callB (r := rIsX W.K) call_isX (by rfl) T.b_isinstance (by decide +kernel) (pa_cons (pv 0) (pa_cons (pe_gn (v := .ref a.InvalidMoves) (by rfl) T.g_InvalidMoves rfl) pa_nil))) pa_nil)))))) (pss_cons (ps_set (i := 1) sc_law_which_load.nd rfl (Or.inl rfl) (pe_op op_addU (pv 1) (pe_lst (pa_cons (pe_callB (r := rIsX W.K) call_isX (by rfl) T.b_isinstance (by decide +kernel) (pa_cons (pv 0) (pa_cons (pe_gn (v := .ref a.InvalidLines) (by rfl) T.g_InvalidLines rfl) pa_nil))) (pa_cons (pe_callB (r := rIsX W.K) call_isX (by rfl) T.b_isinstance (by decide +kernel) (pa_cons (pv 0) (pa_cons (pe_gn (v := .ref a.InvalidSpeed) (by rfl) T.g_InvalidSpeed rfl) pa_nil))) (pa_cons (pe_callB (r := rIsX W.K) call_isX (by rfl) T.b_isinstance (by decide +kernel) (pa_cons (pv 0) (pa_cons (pe_gn (v := .ref a.InvalidTask) (by rfl) T.g_InvalidTask rfl) pa_nil))) pa_nil)))))) (pss_one (ps_ret (pe_op op_addU (pv 1) (pe_lst (pa_cons (pe_callB (r := rIsX W.K) call_isX (by rfl) T.b_isinstance (by decide +kernel) (pa_cons (pv 0) (pa_cons (pe_gn (v := .ref a.WrongSum) (by rfl) T.g_WrongSum rfl) pa_nil))) (pa_cons (pe_callB (r := rIsX W.K) call_isX (by rfl) T.b_isinstance (by decide +kernel) (pa_cons (pv 0) (pa_cons (pe_gn (v := .ref a.InvalidText) (by rfl) T.g_InvalidText rfl) pa_nil))) pa_nil)))))))))))), ?_⟩
  refine i_start (σ' := [some (V.ref x), none]) rfl ?_
  repeat walk_at "rd"
  refine i_isXr (by assumption) xk (kit_leaf T hc (List.mem_of_getElem? (l := lf a) (i := 0) rfl) T.m_InvalidNumber T.t_InvalidNumber) ?_
  repeat walk_at "rd"
  refine i_isXr (by assumption) xk (kit_leaf T hc (List.mem_of_getElem? (l := lf a) (i := 1) rfl) T.m_InvalidName T.t_InvalidName) ?_
  repeat walk_at "rd"
  refine i_isXr (by assumption) xk (kit_leaf T hc (List.mem_of_getElem? (l := lf a) (i := 2) rfl) T.m_InvalidServers T.t_InvalidServers) ?_
  repeat walk_at "rd"
  refine i_mkL (by show 3 ≤ 1000; decide) fun l1 H1 n1 h1 s1 => ?_
  have e1 := e0.same s1
  repeat walk_at "rd"
  refine i_isXr (by assumption) xk (kit_leaf T hc (List.mem_of_getElem? (l := lf a) (i := 3) rfl) T.m_InvalidTasks T.t_InvalidTasks) ?_
  repeat walk_at "rd"
  refine i_isXr (by assumption) xk (kit_leaf T hc (List.mem_of_getElem? (l := lf a) (i := 4) rfl) T.m_InvalidWork T.t_InvalidWork) ?_
  repeat walk_at "rd"
  refine i_isXr (by assumption) xk (kit_leaf T hc (List.mem_of_getElem? (l := lf a) (i := 5) rfl) T.m_InvalidYard T.t_InvalidYard) ?_
  repeat walk_at "rd"
  refine i_mkL (by show 3 ≤ 1000; decide) fun l2 H2 n2 h2 s2 => ?_
  have e2 := e1.same s2
  repeat walk_at "rd"
  refine i_cat (by walk_at "hp") h2 (by show 6 ≤ 1000; decide) fun l3 H3 n3 h3 s3 => ?_
  have e3 := e2.same s3
  repeat walk_at "rd"
  refine i_isXr (by assumption) xk (kit_leaf T hc (List.mem_of_getElem? (l := lf a) (i := 6) rfl) T.m_InvalidAmounts T.t_InvalidAmounts) ?_
  repeat walk_at "rd"
  refine i_isXr (by assumption) xk (kit_leaf T hc (List.mem_of_getElem? (l := lf a) (i := 7) rfl) T.m_InvalidPlan T.t_InvalidPlan) ?_
  repeat walk_at "rd"
  refine i_isXr (by assumption) xk (kit_leaf T hc (List.mem_of_getElem? (l := lf a) (i := 8) rfl) T.m_InvalidGift T.t_InvalidGift) ?_
  repeat walk_at "rd"
  refine i_mkL (by show 3 ≤ 1000; decide) fun l4 H4 n4 h4 s4 => ?_
  have e4 := e3.same s4
  repeat walk_at "rd"
  refine i_cat (by walk_at "hp") h4 (by show 9 ≤ 1000; decide) fun l5 H5 n5 h5 s5 => ?_
  have e5 := e4.same s5
  repeat walk_at "rd"
  refine i_isXr (by assumption) xk (kit_leaf T hc (List.mem_of_getElem? (l := lf a) (i := 9) rfl) T.m_InvalidShare T.t_InvalidShare) ?_
  repeat walk_at "rd"
  refine i_isXr (by assumption) xk (kit_leaf T hc (List.mem_of_getElem? (l := lf a) (i := 10) rfl) T.m_InvalidBounds T.t_InvalidBounds) ?_
  repeat walk_at "rd"
  refine i_isXr (by assumption) xk (kit_leaf T hc (List.mem_of_getElem? (l := lf a) (i := 11) rfl) T.m_InvalidAssignment T.t_InvalidAssignment) ?_
  repeat walk_at "rd"
  refine i_mkL (by show 3 ≤ 1000; decide) fun l6 H6 n6 h6 s6 => ?_
  have e6 := e5.same s6
  repeat walk_at "rd"
  refine i_cat (by walk_at "hp") h6 (by show 12 ≤ 1000; decide) fun l7 H7 n7 h7 s7 => ?_
  have e7 := e6.same s7
  repeat walk_at "rd"
  refine i_isXr (by assumption) xk (kit_leaf T hc (List.mem_of_getElem? (l := lf a) (i := 12) rfl) T.m_InvalidClaim T.t_InvalidClaim) ?_
  repeat walk_at "rd"
  refine i_isXr (by assumption) xk (kit_leaf T hc (List.mem_of_getElem? (l := lf a) (i := 13) rfl) T.m_InvalidCommand T.t_InvalidCommand) ?_
  repeat walk_at "rd"
  refine i_isXr (by assumption) xk (kit_leaf T hc (List.mem_of_getElem? (l := lf a) (i := 14) rfl) T.m_InvalidMoves T.t_InvalidMoves) ?_
  repeat walk_at "rd"
  refine i_mkL (by show 3 ≤ 1000; decide) fun l8 H8 n8 h8 s8 => ?_
  have e8 := e7.same s8
  repeat walk_at "rd"
  refine i_cat (by walk_at "hp") h8 (by show 15 ≤ 1000; decide) fun l9 H9 n9 h9 s9 => ?_
  have e9 := e8.same s9
  repeat walk_at "rd"
  refine i_isXr (by assumption) xk (kit_leaf T hc (List.mem_of_getElem? (l := lf a) (i := 15) rfl) T.m_InvalidLines T.t_InvalidLines) ?_
  repeat walk_at "rd"
  refine i_isXr (by assumption) xk (kit_leaf T hc (List.mem_of_getElem? (l := lf a) (i := 16) rfl) T.m_InvalidSpeed T.t_InvalidSpeed) ?_
  repeat walk_at "rd"
  refine i_isXr (by assumption) xk (kit_leaf T hc (List.mem_of_getElem? (l := lf a) (i := 17) rfl) T.m_InvalidTask T.t_InvalidTask) ?_
  repeat walk_at "rd"
  refine i_mkL (by show 3 ≤ 1000; decide) fun l10 H10 n10 h10 s10 => ?_
  have e10 := e9.same s10
  repeat walk_at "rd"
  refine i_cat (by walk_at "hp") h10 (by show 18 ≤ 1000; decide) fun l11 H11 n11 h11 s11 => ?_
  have e11 := e10.same s11
  repeat walk_at "rd"
  refine i_isXr (by assumption) xk (kit_leaf T hc (List.mem_of_getElem? (l := lf a) (i := 18) rfl) T.m_WrongSum T.t_WrongSum) ?_
  repeat walk_at "rd"
  refine i_isXr (by assumption) xk (kit_leaf T hc (List.mem_of_getElem? (l := lf a) (i := 19) rfl) T.m_InvalidText T.t_InvalidText) ?_
  repeat walk_at "rd"
  refine i_mkL (by show 2 ≤ 1000; decide) fun l12 H12 n12 h12 s12 => ?_
  have e12 := e11.same s12
  repeat walk_at "rd"
  refine i_cat (by walk_at "hp") h12 (by show 20 ≤ 1000; decide) fun l13 H13 n13 h13 s13 => ?_
  have e13 := e12.same s13
  repeat walk_at "rd"
  refine q l13 H13 (Same.free ?_ n13) ?_ h13
  · walk_at "sm"
  · walk_at "sm"
def splaw_which_other (a : Ad) : Sp := fun vs H Q _ => ∃ (x : Addr) (c : Addr × Nat) (fs : List (Str × V)), vs = [.ref x] ∧ c ∈ kinds a ∧ ExAt H x c.1 fs ∧ ∀ r H', H r = none → Same H H' → H' r = some (.lst [V.bl (decide (c.1 = a.UnknownServer)), V.bl (decide (c.1 = a.UnknownTask)), V.bl (decide (c.1 = a.UnknownPlace)), V.bl (decide (c.1 = a.ServerTaken)), V.bl (decide (c.1 = a.TaskTaken)), V.bl (decide (c.1 = a.PlaceTaken)), V.bl (decide (c.1 = a.LastPlace)), V.bl (decide (c.1 = a.OutOfSpan)), V.bl (decide (c.1 = a.NotWhole)), V.bl (decide (c.1 = a.OtherServers)), V.bl (decide (c.1 = a.OtherYard)), V.bl (decide (c.1 = a.Impossible)), V.bl (decide (c.1 = a.CommandFailed)), V.bl (decide (c.1 = a.Overfull)), V.bl (decide (c.1 = a.NothingToUndo)), V.bl (decide (c.1 = a.DividedByZero)), V.bl (decide (c.1 = a.TooMany))]) → Q (.ref r) H'
theorem k_law_which_other (T : Txt W.K W.mg a) : Cl W 3 "_law_which_other" (splaw_which_other a) := by
  refine cl_of' T.d_law_which_other sc_law_which_other bd_law_which_other (fun vs H Q E h => by obtain ⟨x, c, fs, h, _⟩ := h; rw [h]; rfl) fun f cdv A outer s H vs Q E hr h => ?_
  obtain ⟨x, c, fs, rfl, hc, e0, q⟩ := h
  have xk := exk_leaf T hc
  refine ⟨_, (pss_cons (ps_set (i := 1) sc_law_which_other.nd rfl (Or.inl rfl) (pe_lst (pa_cons (pe_callB (r := rIsX W.K) call_isX (by rfl) T.b_isinstance (by decide +kernel) (pa_cons (pv 0) (pa_cons (pe_gn (v := .ref a.UnknownServer) (by rfl) T.g_UnknownServer rfl) pa_nil))) (pa_cons (pe_callB (r := rIsX W.K) call_isX (by rfl) T.b_isinstance (by decide +kernel) (pa_cons (pv 0) (pa_cons (pe_gn (v := .ref a.UnknownTask) (by rfl) T.g_UnknownTask rfl) pa_nil))) (pa_cons (pe_callB (r := rIsX W.K) call_isX (by rfl) T.b_isinstance (by decide +kernel) (pa_cons (pv 0) (pa_cons (pe_gn (v := .ref a.UnknownPlace) (by rfl) T.g_UnknownPlace rfl) pa_nil))) pa_nil))))) (pss_cons (ps_set (i := 1) sc_law_which_other.nd rfl (Or.inl rfl) (pe_op op_addU (pv 1) (pe_lst (pa_cons (pe_callB (r := rIsX W.K) call_isX (by rfl) T.b_isinstance (by decide +kernel) (pa_cons (pv 0) (pa_cons (pe_gn (v := .ref a.ServerTaken) (by rfl) T.g_ServerTaken rfl) pa_nil))) (pa_cons (pe_callB (r := rIsX W.K) call_isX (by rfl) T.b_isinstance (by decide +kernel) (pa_cons (pv 0) (pa_cons (pe_gn (v := .ref a.TaskTaken) (by rfl) T.g_TaskTaken rfl) pa_nil))) (pa_cons (pe_callB (r := rIsX W.K) call_isX (by rfl) T.b_isinstance (by decide +kernel) (pa_cons (pv 0) (pa_cons (pe_gn (v := .ref a.PlaceTaken) (by rfl) T.g_PlaceTaken rfl) pa_nil))) pa_nil)))))) (pss_cons (ps_set (i := 1) sc_law_which_other.nd rfl (Or.inl rfl) (pe_op op_addU (pv 1) (pe_lst (pa_cons (pe_callB (r := rIsX W.K) call_isX (by rfl) T.b_isinstance (by decide +kernel) (pa_cons (pv 0) (pa_cons (pe_gn (v := .ref a.LastPlace) (by rfl) T.g_LastPlace rfl) pa_nil))) (pa_cons (pe_callB (r := rIsX W.K) call_isX (by rfl) T.b_isinstance (by decide +kernel) (pa_cons (pv 0) (pa_cons (pe_gn (v := .ref a.OutOfSpan) (by rfl) T.g_OutOfSpan rfl) pa_nil))) (pa_cons (pe_callB (r := rIsX W.K) call_isX (by rfl) T.b_isinstance (by decide +kernel) (pa_cons (pv 0) (pa_cons (pe_gn (v := .ref a.NotWhole) (by rfl) T.g_NotWhole rfl) pa_nil))) pa_nil)))))) (pss_cons (ps_set (i := 1) sc_law_which_other.nd rfl (Or.inl rfl) (pe_op op_addU (pv 1) (pe_lst (pa_cons (pe_callB (r := rIsX W.K) call_isX (by rfl) T.b_isinstance (by decide +kernel) (pa_cons (pv 0) (pa_cons (pe_gn (v := .ref a.OtherServers) (by rfl) T.g_OtherServers rfl) pa_nil))) (pa_cons (pe_callB (r := rIsX W.K) call_isX (by rfl) T.b_isinstance (by decide +kernel) (pa_cons (pv 0) (pa_cons (pe_gn (v := .ref a.OtherYard) (by rfl) T.g_OtherYard rfl) pa_nil))) (pa_cons (pe_callB (r := rIsX W.K) call_isX (by rfl) T.b_isinstance (by decide +kernel) (pa_cons (pv 0) (pa_cons (pe_gn (v := .ref a.Impossible) (by rfl) T.g_Impossible rfl) pa_nil))) pa_nil)))))) (pss_cons (ps_set (i := 1) sc_law_which_other.nd rfl (Or.inl rfl) (pe_op op_addU (pv 1) (pe_lst (pa_cons (pe_callB (r := rIsX W.K) call_isX (by rfl) T.b_isinstance (by decide +kernel) (pa_cons (pv 0) (pa_cons (pe_gn (v := .ref a.CommandFailed) (by rfl) T.g_CommandFailed rfl) pa_nil))) (pa_cons (pe_callB (r := rIsX W.K) call_isX (by rfl) T.b_isinstance (by decide +kernel) (pa_cons (pv 0) (pa_cons (pe_gn (v := .ref a.Overfull) (by rfl) T.g_Overfull rfl) pa_nil))) (pa_cons (pe_callB (r := rIsX W.K) call_isX (by rfl) T.b_isinstance (by decide +kernel) (pa_cons (pv 0) (pa_cons (pe_gn (v := .ref a.NothingToUndo) (by rfl) T.g_NothingToUndo rfl) pa_nil))) pa_nil)))))) (pss_one (ps_ret (pe_op op_addU (pv 1) (pe_lst (pa_cons (pe_callB (r := rIsX W.K) call_isX (by rfl) T.b_isinstance (by decide +kernel) (pa_cons (pv 0) (pa_cons (pe_gn (v := .ref a.DividedByZero) (by rfl) T.g_DividedByZero rfl) pa_nil))) (pa_cons (pe_callB (r := rIsX W.K) call_isX (by rfl) T.b_isinstance (by decide +kernel) (pa_cons (pv 0) (pa_cons (pe_gn (v := .ref a.TooMany) (by rfl) T.g_TooMany rfl) pa_nil))) pa_nil))))))))))), ?_⟩
  refine i_start (σ' := [some (V.ref x), none]) rfl ?_
  repeat walk_at "rd"
  refine i_isXr (by assumption) xk (kit_leaf T hc (List.mem_of_getElem? (l := lf a) (i := 20) rfl) T.m_UnknownServer T.t_UnknownServer) ?_
  repeat walk_at "rd"
  refine i_isXr (by assumption) xk (kit_leaf T hc (List.mem_of_getElem? (l := lf a) (i := 21) rfl) T.m_UnknownTask T.t_UnknownTask) ?_
  repeat walk_at "rd"
  refine i_isXr (by assumption) xk (kit_leaf T hc (List.mem_of_getElem? (l := lf a) (i := 22) rfl) T.m_UnknownPlace T.t_UnknownPlace) ?_
  repeat walk_at "rd"
  refine i_mkL (by show 3 ≤ 1000; decide) fun l1 H1 n1 h1 s1 => ?_
  have e1 := e0.same s1
  repeat walk_at "rd"
  refine i_isXr (by assumption) xk (kit_leaf T hc (List.mem_of_getElem? (l := lf a) (i := 23) rfl) T.m_ServerTaken T.t_ServerTaken) ?_
  repeat walk_at "rd"
  refine i_isXr (by assumption) xk (kit_leaf T hc (List.mem_of_getElem? (l := lf a) (i := 24) rfl) T.m_TaskTaken T.t_TaskTaken) ?_
  repeat walk_at "rd"
  refine i_isXr (by assumption) xk (kit_leaf T hc (List.mem_of_getElem? (l := lf a) (i := 25) rfl) T.m_PlaceTaken T.t_PlaceTaken) ?_
  repeat walk_at "rd"
  refine i_mkL (by show 3 ≤ 1000; decide) fun l2 H2 n2 h2 s2 => ?_
  have e2 := e1.same s2
  repeat walk_at "rd"
  refine i_cat (by walk_at "hp") h2 (by show 6 ≤ 1000; decide) fun l3 H3 n3 h3 s3 => ?_
  have e3 := e2.same s3
  repeat walk_at "rd"
  refine i_isXr (by assumption) xk (kit_leaf T hc (List.mem_of_getElem? (l := lf a) (i := 26) rfl) T.m_LastPlace T.t_LastPlace) ?_
  repeat walk_at "rd"
  refine i_isXr (by assumption) xk (kit_leaf T hc (List.mem_of_getElem? (l := lf a) (i := 27) rfl) T.m_OutOfSpan T.t_OutOfSpan) ?_
  repeat walk_at "rd"
  refine i_isXr (by assumption) xk (kit_leaf T hc (List.mem_of_getElem? (l := lf a) (i := 28) rfl) T.m_NotWhole T.t_NotWhole) ?_
  repeat walk_at "rd"
  refine i_mkL (by show 3 ≤ 1000; decide) fun l4 H4 n4 h4 s4 => ?_
  have e4 := e3.same s4
  repeat walk_at "rd"
  refine i_cat (by walk_at "hp") h4 (by show 9 ≤ 1000; decide) fun l5 H5 n5 h5 s5 => ?_
  have e5 := e4.same s5
  repeat walk_at "rd"
  refine i_isXr (by assumption) xk (kit_leaf T hc (List.mem_of_getElem? (l := lf a) (i := 29) rfl) T.m_OtherServers T.t_OtherServers) ?_
  repeat walk_at "rd"
  refine i_isXr (by assumption) xk (kit_leaf T hc (List.mem_of_getElem? (l := lf a) (i := 30) rfl) T.m_OtherYard T.t_OtherYard) ?_
  repeat walk_at "rd"
  refine i_isXr (by assumption) xk (kit_leaf T hc (List.mem_of_getElem? (l := lf a) (i := 31) rfl) T.m_Impossible T.t_Impossible) ?_
  repeat walk_at "rd"
  refine i_mkL (by show 3 ≤ 1000; decide) fun l6 H6 n6 h6 s6 => ?_
  have e6 := e5.same s6
  repeat walk_at "rd"
  refine i_cat (by walk_at "hp") h6 (by show 12 ≤ 1000; decide) fun l7 H7 n7 h7 s7 => ?_
  have e7 := e6.same s7
  repeat walk_at "rd"
  refine i_isXr (by assumption) xk (kit_leaf T hc (List.mem_of_getElem? (l := lf a) (i := 32) rfl) T.m_CommandFailed T.t_CommandFailed) ?_
  repeat walk_at "rd"
  refine i_isXr (by assumption) xk (kit_leaf T hc (List.mem_of_getElem? (l := lf a) (i := 33) rfl) T.m_Overfull T.t_Overfull) ?_
  repeat walk_at "rd"
  refine i_isXr (by assumption) xk (kit_leaf T hc (List.mem_of_getElem? (l := lf a) (i := 34) rfl) T.m_NothingToUndo T.t_NothingToUndo) ?_
  repeat walk_at "rd"
  refine i_mkL (by show 3 ≤ 1000; decide) fun l8 H8 n8 h8 s8 => ?_
  have e8 := e7.same s8
  repeat walk_at "rd"
  refine i_cat (by walk_at "hp") h8 (by show 15 ≤ 1000; decide) fun l9 H9 n9 h9 s9 => ?_
  have e9 := e8.same s9
  repeat walk_at "rd"
  refine i_isXr (by assumption) xk (kit_leaf T hc (List.mem_of_getElem? (l := lf a) (i := 35) rfl) T.m_DividedByZero T.t_DividedByZero) ?_
  repeat walk_at "rd"
  refine i_isXr (by assumption) xk (kit_leaf T hc (List.mem_of_getElem? (l := lf a) (i := 36) rfl) T.m_TooMany T.t_TooMany) ?_
  repeat walk_at "rd"
  refine i_mkL (by show 2 ≤ 1000; decide) fun l10 H10 n10 h10 s10 => ?_
  have e10 := e9.same s10
  repeat walk_at "rd"
  refine i_cat (by walk_at "hp") h10 (by show 17 ≤ 1000; decide) fun l11 H11 n11 h11 s11 => ?_
  have e11 := e10.same s11
  repeat walk_at "rd"
  refine q l11 H11 (Same.free ?_ n11) ?_ h11
  · walk_at "sm"
  · walk_at "sm"
def splaw_bases (a : Ad) : Sp := fun vs H Q _ => ∃ (x : Addr) (c : Addr × Nat) (fs : List (Str × V)), vs = [.ref x] ∧ c ∈ kinds a ∧ ExAt H x c.1 fs ∧ ∀ r H', H r = none → Same H H' → H' r = some (.lst [V.bl (bB c.2 0), V.bl (bB c.2 1), V.bl (bB c.2 2), V.bl (bB c.2 3), V.bl (bB c.2 4), V.bl (bB c.2 5), V.bl (bB c.2 6), V.bl (bB c.2 7), V.bl (bB c.2 8)]) → Q (.ref r) H'
theorem k_law_bases (T : Txt W.K W.mg a) : Cl W 3 "_law_bases" (splaw_bases a) := by
  refine cl_of' T.d_law_bases sc_law_bases bd_law_bases (fun vs H Q E h => by obtain ⟨x, c, fs, h, _⟩ := h; rw [h]; rfl) fun f cdv A outer s H vs Q E hr h => ?_
  obtain ⟨x, c, fs, rfl, hc, e0, q⟩ := h
  have xk := exk_leaf T hc
  refine ⟨_, (pss_cons (ps_set (i := 1) sc_law_bases.nd rfl (Or.inl rfl) (pe_lst (pa_cons (pe_callB (r := rIsX W.K) call_isX (by rfl) T.b_isinstance (by decide +kernel) (pa_cons (pv 0) (pa_cons (pe_gn (v := .ref a.LoadError) (by rfl) T.g_LoadError rfl) pa_nil))) (pa_cons (pe_callB (r := rIsX W.K) call_isX (by rfl) T.b_isinstance (by decide +kernel) (pa_cons (pv 0) (pa_cons (pe_gn (v := .ref a.MissingError) (by rfl) T.g_MissingError rfl) pa_nil))) (pa_cons (pe_callB (r := rIsX W.K) call_isX (by rfl) T.b_isinstance (by decide +kernel) (pa_cons (pv 0) (pa_cons (pe_gn (v := .ref a.StateError) (by rfl) T.g_StateError rfl) pa_nil))) pa_nil))))) (pss_cons (ps_set (i := 1) sc_law_bases.nd rfl (Or.inl rfl) (pe_op op_addU (pv 1) (pe_lst (pa_cons (pe_callB (r := rIsX W.K) call_isX (by rfl) T.b_isinstance (by decide +kernel) (pa_cons (pv 0) (pa_cons (pe_gn (v := .ref a.LimitError) (by rfl) T.g_LimitError rfl) pa_nil))) (pa_cons (pe_callB (r := rIsX W.K) call_isX (by rfl) T.b_isinstance (by decide +kernel) (pa_cons (pv 0) (pa_cons (pe_bltn (by rfl) T.b_ValueError (by decide +kernel) (v := .ty "ValueError") rfl) pa_nil))) (pa_cons (pe_callB (r := rIsX W.K) call_isX (by rfl) T.b_isinstance (by decide +kernel) (pa_cons (pv 0) (pa_cons (pe_bltn (by rfl) T.b_LookupError (by decide +kernel) (v := .ty "LookupError") rfl) pa_nil))) pa_nil)))))) (pss_one (ps_ret (pe_op op_addU (pv 1) (pe_lst (pa_cons (pe_callB (r := rIsX W.K) call_isX (by rfl) T.b_isinstance (by decide +kernel) (pa_cons (pv 0) (pa_cons (pe_bltn (by rfl) T.b_RuntimeError (by decide +kernel) (v := .ty "RuntimeError") rfl) pa_nil))) (pa_cons (pe_callB (r := rIsX W.K) call_isX (by rfl) T.b_isinstance (by decide +kernel) (pa_cons (pv 0) (pa_cons (pe_bltn (by rfl) T.b_ArithmeticError (by decide +kernel) (v := .ty "ArithmeticError") rfl) pa_nil))) (pa_cons (pe_callB (r := rIsX W.K) call_isX (by rfl) T.b_isinstance (by decide +kernel) (pa_cons (pv 0) (pa_cons (pe_bltn (by rfl) T.b_TypeError (by decide +kernel) (v := .ty "TypeError") rfl) pa_nil))) pa_nil))))))))), ?_⟩
  refine i_start (σ' := [some (V.ref x), none]) rfl ?_
  repeat walk_at "rd"
  refine i_isXr (by assumption) xk (kb_0 T hc) ?_
  repeat walk_at "rd"
  refine i_isXr (by assumption) xk (kb_1 T hc) ?_
  repeat walk_at "rd"
  refine i_isXr (by assumption) xk (kb_2 T hc) ?_
  repeat walk_at "rd"
  refine i_mkL (by show 3 ≤ 1000; decide) fun l1 H1 n1 h1 s1 => ?_
  have e1 := e0.same s1
  repeat walk_at "rd"
  refine i_isXr (by assumption) xk (kb_3 T hc) ?_
  repeat walk_at "rd"
  refine i_isXt (by assumption) xk (kb_4 T hc) ?_
  repeat walk_at "rd"
  refine i_isXt (by assumption) xk (kb_5 T hc) ?_
  repeat walk_at "rd"
  refine i_mkL (by show 3 ≤ 1000; decide) fun l2 H2 n2 h2 s2 => ?_
  have e2 := e1.same s2
  repeat walk_at "rd"
  refine i_cat (by walk_at "hp") h2 (by show 6 ≤ 1000; decide) fun l3 H3 n3 h3 s3 => ?_
  have e3 := e2.same s3
  repeat walk_at "rd"
  refine i_isXt (by assumption) xk (kb_6 T hc) ?_
  repeat walk_at "rd"
  refine i_isXt (by assumption) xk (kb_7 T hc) ?_
  repeat walk_at "rd"
  refine i_isXt (by assumption) xk (kb_8 T hc) ?_
  repeat walk_at "rd"
  refine i_mkL (by show 3 ≤ 1000; decide) fun l4 H4 n4 h4 s4 => ?_
  have e4 := e3.same s4
  repeat walk_at "rd"
  refine i_cat (by walk_at "hp") h4 (by show 9 ≤ 1000; decide) fun l5 H5 n5 h5 s5 => ?_
  have e5 := e4.same s5
  repeat walk_at "rd"
  refine q l5 H5 (Same.free ?_ n5) ?_ h5
  · walk_at "sm"
  · walk_at "sm"
end Lw

namespace Ly
open PySem PySem.Spec PyProof.Rows L2
/-- for i, x in enumerate(a list that stays) -/
theorem i_eforV {K : PySem.W.Frag} {σ : L2.St} {H : Hp} {D : Ends} {tb : TS} {g : TG} {n : Nat} {l : Addr} {xs : List V} (hv : σ[n]? = some (some (.ref l))) (hl : H l = some (.lst xs)) (Pv : Nat → L2.St → Hp → Prop) (h0 : Pv 0 σ H) (hG : ∀ i σ H, Pv i σ H → H l = some (.lst xs))
    (hs : ∀ (i : Nat) x σ H T H', xs[i]? = some x → Pv i σ H → H T = none → H' T = some (.tup [.int (i : Int), x]) → Same H H' → g (.ref T) σ H' fun σ2 H2 => tb { D with nx := Pv (i + 1), ct := Pv (i + 1), bk := D.nx } σ2 H2) (hd : ∀ σ H, Pv xs.length σ H → D.nx σ H) :
    tFor (iEnum K (tCons (tVar n) tNil)) g tb D σ H := by
  refine ⟨_, hv, l, xs, rfl, SqL.of hl, for_it walk_enum Pv h0 (fun i σ H _ p => SqL.of (hG i σ H p)) (fun i x σ H H' hi p y => ?_) hd⟩
  obtain ⟨T, y1, y2, rfl, nT, rfl, e1, e2⟩ := y
  cases (Option.some.inj e1)
  exact hs i y2 σ H T _ e2 p nT upd_same (same_new nT)
end Ly
namespace Lw
open PySem PySem.Spec PyProof.Rows L2 Ly
local macro_rules | `(tactic| walk_at "rd") => `(tactic| first
  | ((with_reducible refine' i_var ?hv ?_); (case hv => exact rfl))
  | with_reducible refine i_c ?_
  | with_reducible refine i_op ?_
  | with_reducible refine i_cons ?_
  | with_reducible refine i_nil ?_
  | with_reducible refine i_cb ?_
  | with_reducible refine i_call ?_
  | with_reducible refine i_I0 ?_
  | with_reducible refine i_add_i ?_
  | with_reducible refine i_sub_i ?_
  | with_reducible refine i_md_i (by first | decide | assumption) ?_
  | ((with_reducible refine' i_md_i ?c ?_); rotate_left)
  | ((with_reducible refine' i_mul_i ?c ?_); rotate_left)
  | with_reducible refine i_fd_i (by decide) ?_
  | ((with_reducible refine' i_fd_i ?c ?_); rotate_left)
  | with_reducible refine i_int ?_
  | with_reducible refine i_abs ?_
  | with_reducible refine i_max2 ?_
  | with_reducible refine i_min2 ?_
  | with_reducible refine i_gcd ?_
  | with_reducible refine i_seq ?_
  | with_reducible refine i_if ?_
  | with_reducible refine i_asg ?_
  | with_reducible refine i_ret ?_
  | with_reducible refine i_drop ?_
  | with_reducible refine i_next ?_
  | with_reducible refine i_un ?_
  | with_reducible refine i_U ?_
  | ((with_reducible refine i_gname ?_); dsimp only [List.set])
  | with_reducible refine i_test ?_
  | with_reducible refine i_not ?_
  | with_reducible refine i_or ?_
  | with_reducible refine i_and ?_
  | with_reducible refine i_tb ?_
  | with_reducible refine i_andV ?_
  | with_reducible refine i_orV ?_
  | with_reducible refine i_notV ?_
  | with_reducible refine i_ifx ?_
  | with_reducible refine i_ext ?_
  | with_reducible refine i_exf ?_
  | with_reducible refine i_exn ?_
  | with_reducible refine i_itt ?_
  | with_reducible refine i_itf ?_
  | with_reducible refine i_gsub ?_
  | with_reducible refine i_nt ?_
  | with_reducible refine i_tup ?_
  | with_reducible refine i_lst ?_
  | with_reducible refine i_nf ?_
  | with_reducible refine i_isint ?_
  | ((with_reducible refine' i_top ?r ?_); (case r => walk_at "hp"))
  | ((with_reducible refine' i_bot ?r ?_); (case r => walk_at "hp"))
  | with_reducible refine i_fld ?_
  | with_reducible refine i_sfld ?_
  | with_reducible refine i_pp ?_
  | with_reducible refine i_meth ?_
  | with_reducible refine i_smeth ?_
  | with_reducible refine i_make ?_
  | with_reducible refine i_sl ?_
  | with_reducible refine i_noPart ?_
  | with_reducible refine i_part ?_
  | with_reducible refine i_smethK ?_
  | with_reducible refine i_sk1 ?_
  | with_reducible refine i_makeK ?_
  | with_reducible refine i_methK ?_
  | with_reducible refine i_mk11 ?_
  | ((with_reducible refine' i_rmk ?r ?h1 ?h2 ?_); (case r => walk_at "hp"); (case h1 => decide +kernel); (case h2 => decide +kernel))
  | with_reducible refine i_tpar ?_
  | ((with_reducible refine i_rpar ?_); dsimp only [List.set])
  | with_reducible refine i_eq_s rfl ?_
  | with_reducible refine i_ne_s rfl ?_
  | ((with_reducible refine' i_rtop ?r ?c ?n ?_); (case r => walk_at "hp"); (case c => assumption); (case n => assumption))
  | ((with_reducible refine' i_rbot ?r ?c ?n ?_); (case r => walk_at "hp"); (case c => assumption); (case n => assumption))
  | ((with_reducible refine' i_rpp ?r ?_); (case r => walk_at "hp"))
  | ((with_reducible refine' i_rmeth ?r ?h1 ?h2 ?_); (case r => walk_at "hp"); (case h1 => decide +kernel); (case h2 => decide +kernel))
  | ((with_reducible refine' i_ix_l ?hp ?ha ?_); (case hp => walk_at "hp"); (case ha => exact rfl))
  | ((with_reducible refine' i_len_l ?hp ?_); (case hp => walk_at "hp"))
  | ((with_reducible refine' i_ix_f0 ?hp ?_); (case hp => walk_at "hp"))
  | ((with_reducible refine' i_ix_f1 ?hp ?_); (case hp => walk_at "hp"))
  | ((with_reducible refine' i_ix_t ?hp ?ha ?_); (case hp => walk_at "hp"); (case ha => exact rfl)))
local macro_rules | `(tactic| walk_at "hp") => `(tactic| first
  | assumption
  | exact upd_same
  | exact SqL.of (by assumption)
  | (refine' Dr.tup (by assumption) ?hq; (case hq => walk_at "hp"))
  | (refine' FrL.same (by assumption) ?hq; (case hq => walk_at "hp"))
  | (refine' FracAt.same (by assumption) ?hq; (case hq => walk_at "hp"))
  | (refine' FracAt.nl (by assumption) ?hq; (case hq => walk_at "hp"))
  | (refine' RatAt.nl (by assumption) ?hq; (case hq => walk_at "hp"))
  | (refine' Num.nl (by assumption) ?hq; (case hq => walk_at "hp"))
  | (refine' FracAt.pk (by assumption) ?hq; (case hq => walk_at "hp"))
  | (refine' RatAt.pk (by assumption) ?hq; (case hq => walk_at "hp"))
  | (refine' Num.pk (by assumption) ?hq; (case hq => walk_at "hp"))
  | (refine' Dr.keep (by assumption) _ _ (by assumption) ?hq; (case hq => walk_at "hp"))
  | (refine' (show Same _ _ by assumption) _ _ ?hq; (case hq => walk_at "hp"))
  | (refine' RatAt.same (by assumption) ?hq; (case hq => walk_at "hp"))
  | (refine' Num.same (by assumption) ?hq; (case hq => walk_at "hp")))
local macro_rules | `(tactic| walk_at "sm") => `(tactic| first
  | assumption
  | exact Same.refl _
  | (refine' Same.kl (by assumption) (by assumption) ?aa; (case aa => walk_at "sm"))
  | (refine' Same.trans ?aa (by assumption); (case aa => walk_at "sm")))
local macro_rules | `(tactic| walk_at "dr") => `(tactic| first
  | assumption
  | (refine' Dr.same ?aa (by assumption); (case aa => walk_at "dr"))
  | (refine' Dr.trans ?aa (by assumption); (case aa => walk_at "dr")))

variable {W : Wd} {a : Ad}
theorem kinds_inj (T : Txt W.K W.mg a) {i j : Nat} {c d : Addr × Nat} (hi : (kinds a)[i]? = some c) (hj : (kinds a)[j]? = some d) : decide (c.1 = d.1) = decide (j = i) := by
  have nd : ((kinds a).map (·.1)).Nodup := (List.nodup_append.mp (nd_ab T)).1
  have ei : ((kinds a).map (·.1))[i]? = some c.1 := by rw [List.getElem?_map, hi]; rfl
  have ej : ((kinds a).map (·.1))[j]? = some d.1 := by rw [List.getElem?_map, hj]; rfl
  by_cases h : j = i
  · subst h
    rw [hi] at hj
    cases hj
    rw [decide_eq_true rfl, decide_eq_true rfl]
  · rw [decide_eq_false h]
    refine decide_eq_false fun e => h ?_
    obtain ⟨h1, e1⟩ := List.getElem?_eq_some_iff.mp ei
    obtain ⟨h2, e2⟩ := List.getElem?_eq_some_iff.mp ej
    exact (List.getElem_inj nd).mp (e2.trans (e.symm.trans e1.symm))
theorem which_eq (T : Txt W.K W.mg a) {i : Nat} {c : Addr × Nat} (hi : (kinds a)[i]? = some c) : (kinds a).map (fun d => V.bl (decide (c.1 = d.1))) = (List.range 37).map fun t => V.bl (decide (V.int ((t : Nat) : Int) = V.int (i : Int))) := by
  have l37 : (kinds a).length = 37 := rfl
  apply List.ext_getElem?
  intro t
  rw [List.getElem?_map, List.getElem?_map]
  rcases Nat.lt_or_ge t 37 with h | h
  · have ht := List.getElem?_eq_getElem (show t < (kinds a).length by rw [l37]; exact h)
    rw [ht, List.getElem?_range h, Option.map_some, Option.map_some, kinds_inj T hi ht]
    congr 2
    by_cases e : t = i
    · rw [decide_eq_true e, decide_eq_true (by rw [e])]
    · rw [decide_eq_false e, decide_eq_false fun z => e (by have := V.int.inj z; omega)]
  · rw [List.getElem?_eq_none (by rw [l37]; exact h), List.getElem?_eq_none (by rw [List.length_range]; exact h)]
    rfl
def kAt (i : Nat) : Nat := if i < 20 then 0 else if i < 23 then 1 else if i < 35 then 2 else 3
theorem k_at {i : Nat} {c : Addr × Nat} (hi : (kinds a)[i]? = some c) : c.2 = kAt i := by
  have e1 : (kinds a).map (·.2) = (List.range 37).map kAt := rfl
  have e2 : ((kinds a).map (·.2))[i]? = some c.2 := by rw [List.getElem?_map, hi]; rfl
  rw [e1, List.getElem?_map] at e2
  rcases Nat.lt_or_ge i 37 with h | h
  · rw [List.getElem?_range h] at e2
    exact (Option.some.inj e2).symm
  · rw [List.getElem?_eq_none (by rw [List.length_range]; exact h)] at e2
    cases e2
def spClasses : Sp := fun vs H Q _ => ∃ v w : V, vs = [v, w] ∧ ∀ H', Same H H' → Q (.bl true) H'
theorem k_law_classes_right (T : Txt W.K W.mg a) : Cl W 5 "_law_classes_right" spClasses := by
  refine cl_of' T.d_law_classes_right sc_law_classes_right bd_law_classes_right (fun vs H Q E h => by obtain ⟨v, w, h, _⟩ := h; rw [h]; rfl) fun f cdv A outer s H vs Q E hr h => ?_
  obtain ⟨v, w, rfl, q⟩ := h
  refine ⟨_, (pss_cons (ps_set (i := 2) sc_law_classes_right.nd rfl (Or.inl rfl) (pe_op op_addU (pe_cl (k_law_load_errors T) hr (by decide) rfl (pa_cons (pv 0) pa_nil)) (pe_cl (k_law_other_errors T) hr (by decide) rfl (pa_cons (pv 0) (pa_cons (pv 1) pa_nil))))) (pss_cons (ps_for PassesOwn.never rfl (pi_enum (by rfl) T.b_enumerate (pa_cons (pv 2) pa_nil)) (pg_tup rfl (pgs_cons (pg_name (i := 3) sc_law_classes_right.nd rfl (Or.inr rfl)) (pgs_cons (pg_name (i := 4) sc_law_classes_right.nd rfl (Or.inl rfl)) pgs_nil))) (pss_cons (ps_if (pt_cmpR (r := rNeS W.K) (op_neS hr.units) (pe_op op_addU (pe_cl (k_law_which_load T) hr (by decide) rfl (pa_cons (pv 4) pa_nil)) (pe_cl (k_law_which_other T) hr (by decide) rfl (pa_cons (pv 4) pa_nil))) (pe_lc (own := [("_law_turn", 6)]) (g := (gName 6)) (tt := tYes) rfl sc_law_classes_right.nd (pi_range1 rfl T.b_range (pa_cons (pe_callB (r := Ly.rLen W.K) call_lenU (by rfl) T.b_len (by decide +kernel) (pa_cons (pv 2) pa_nil)) pa_nil)) (blkOk_by (N := N_law_classes_right) (sc := defScope s_law_classes_right) (by decide +kernel)) (fun _ _ _ _ _ => (pg_name (i := 6) sc_law_classes_right.nd rfl (Or.inl rfl))) (fun _ _ _ _ _ => pts_nil) (fun _ _ _ _ _ => (pe_cmpR (r := rEqU W.K) (op_eqU hr.units) (pv 6) (pv 3) (nomark _)))) (nomark _)) (pss_one (ps_ret pe_bl)) pss_nil) (Evl.pss_cut (ps_set (i := 5) sc_law_classes_right.nd rfl (Or.inr rfl) (pe_ifExp (pt_cmpR op_lt (pv 3) pe_int (nomark _)) pe_int (pe_ifExp (pt_cmpR op_lt (pv 3) pe_int (nomark _)) pe_int (pe_ifExp (pt_cmpR op_lt (pv 3) pe_int (nomark _)) pe_int pe_int)))) (pss_one (ps_if (pt_cmpR (r := rNeS W.K) (op_neS hr.units) (pe_cl (k_law_bases T) hr (by decide) rfl (pa_cons (pv 4) pa_nil)) (pe_lc (own := [("_law_turn", 6)]) (g := (gName 6)) (tt := tYes) rfl sc_law_classes_right.nd (pi_range1 rfl T.b_range (pa_cons pe_int pa_nil)) (blkOk_by (N := N_law_classes_right) (sc := defScope s_law_classes_right) (by decide +kernel)) (fun _ _ _ _ _ => (pg_name (i := 6) sc_law_classes_right.nd rfl (Or.inl rfl))) (fun _ _ _ _ _ => pts_nil) (fun _ _ _ _ _ => (pe_cmpR (r := rIn W.K false) op_in_seq (pv 6) (pe_tup (pa_cons (pv 5) (pa_cons (pe_op op_addU (pv 5) pe_int) pa_nil))) rfl))) (nomark _)) (pss_one (ps_ret pe_bl)) pss_nil))))) (pss_one (ps_ret pe_bl)))), ?_⟩
  refine i_start (σ' := [some v, some w, none, none, none, none, none]) rfl ?_
  repeat walk_at "rd"
  refine ⟨v, rfl, fun l1 H1 xs n1 s1 h1 e1 => ?_⟩
  repeat walk_at "rd"
  refine ⟨v, w, rfl, fun l2 H2 ys n2 s2 h2 e2 => ?_⟩
  repeat walk_at "rd"
  have lx := e1.ix.1
  have ly := e2.ix.1
  refine i_cat (s2 _ _ h1) h2 ?_ fun l3 H3 n3 h3 s3 => ?_
  · rw [List.length_append, List.length_map, List.length_map, lx, ly]
    show 37 ≤ 1000
    decide
  have e3 : ExL H3 (xs ++ ys) (loads a v ++ others a v w) := ((e1.same s2).app e2).same s3
  rw [← List.map_append] at h3
  repeat walk_at "rd"
  have s03 : Same H H3 := (s1.trans s2).trans s3
  clear s1 s2 s3 h1 h2 e1 e2 n1 n2 n3
  have l37 : ((xs ++ ys).map V.ref).length = 37 := by
    rw [List.length_map, List.length_append, lx, ly]
    rfl
  refine i_eforV (l := l3) (xs := (xs ++ ys).map V.ref) rfl h3 (fun i σ' H' => ∃ w1 w2 w3 w4, σ' = [some v, some w, some (V.ref l3), w1, w2, w3, w4] ∧ Same H3 H') ⟨_, _, _, _, rfl, Same.refl _⟩ ?_ ?_ ?_
  · rintro i σ' H' ⟨_, _, _, _, _, s⟩
    exact s _ _ h3
  · rintro i x σ' H4 T5 H5 hx ⟨w1, w2, w3, w4, rfl, s4⟩ n5 h5 s5
    have hi : i < 37 := by
      have := (List.getElem?_eq_some_iff.mp hx).1
      omega
    obtain ⟨y, hy, rfl⟩ : ∃ y, (xs ++ ys)[i]? = some y ∧ x = V.ref y := by
      rw [List.getElem?_map] at hx
      cases e : (xs ++ ys)[i]? with
      | none => rw [e] at hx; cases hx
      | some y => rw [e] at hx; exact ⟨y, rfl, (Option.some.inj hx).symm⟩
    have hk := List.getElem?_eq_getElem (show i < (kinds a).length from hi)
    generalize (kinds a)[i] = c at hk
    have hc : c ∈ kinds a := List.mem_of_getElem? hk
    obtain ⟨d, hd, ed⟩ : ∃ d, (loads a v ++ others a v w)[i]? = some d ∧ d.1 = c.1 := by
      have e1 : (loads a v ++ others a v w).map (·.1) = (kinds a).map (·.1) := rfl
      have e2 : ((kinds a).map (·.1))[i]? = some c.1 := by rw [List.getElem?_map, hk]; rfl
      rw [← e1, List.getElem?_map] at e2
      cases e : (loads a v ++ others a v w)[i]? with
      | none => rw [e] at e2; cases e2
      | some d => rw [e] at e2; exact ⟨d, rfl, Option.some.inj e2⟩
    have s35 : Same H3 H5 := s4.trans s5
    have ea : ExAt H5 y c.1 d.2 := by
      rw [← ed]
      exact (e3.ix.2 i y d hy hd).same s35
    refine ⟨T5, _, rfl, SqT.of h5, rfl, ?_⟩
    refine ⟨_, _, rfl, ?_⟩
    repeat walk_at "rd"
    refine ⟨_, _, rfl, ?_⟩
    repeat walk_at "rd"
    refine ⟨rfl, ?_⟩
    repeat walk_at "rd"
    refine ⟨y, c, d.2, rfl, hc, ea, fun r6 H6 n6 s6 h6 => ?_⟩
    repeat walk_at "rd"
    refine ⟨y, c, d.2, rfl, hc, ea.same s6, fun r7 H7 n7 s7 h7 => ?_⟩
    repeat walk_at "rd"
    refine i_cat (s7 _ _ h6) h7 (by show 37 ≤ 1000; decide) fun r8 H8 n8 h8 s8 => ?_
    have h8' : H8 r8 = some (.lst ((kinds a).map fun d => V.bl (decide (c.1 = d.1)))) := h8
    rw [which_eq T hk] at h8'
    have s58 : Same H5 H8 := (s6.trans s7).trans s8
    clear h8 s6 s7 s8 h6 h7 n6 n7 n8
    repeat walk_at "rd"
    refine i_lcr ?_
    repeat walk_at "rd"
    rw [l37]
    refine i_rlcRF (fun t => V.bl (decide (V.int ((t : Nat) : Int) = V.int (i : Int)))) (by decide) (by decide) (fun x => rfl) ?_ ?_
    · intro t H9 Q' ht s9 q'
      dsimp only [List.map, wipe, List.set]
      repeat walk_at "rd"
      exact q' _ (Same.refl _)
    intro r9 H9 n9 s9 h9
    refine i_neS (s9 _ _ h8') h9 ?_ ?_
    · intro z hz
      obtain ⟨t, _, rfl⟩ := List.mem_map.mp hz
      rfl
    repeat walk_at "rd"
    refine ⟨fun σ' H' => ∃ w4, σ' = [some v, some w, some (V.ref l3), some (V.int (i : Int)), some (V.ref y), some (V.int (c.2 : Int)), w4] ∧ H' = H9, ?_, ?_⟩
    · have ek := k_at hk
      unfold kAt at ek
      repeat walk_at "rd"
      refine i_dec (fun z => ?_) (fun z => ?_)
      · rw [if_pos (by omega)] at ek
        repeat walk_at "rd"
        exact ⟨_, by rw [ek]; rfl, rfl⟩
      rw [if_neg (by omega)] at ek
      repeat walk_at "rd"
      refine i_dec (fun z => ?_) (fun z => ?_)
      · rw [if_pos (by omega)] at ek
        repeat walk_at "rd"
        exact ⟨_, by rw [ek]; rfl, rfl⟩
      rw [if_neg (by omega)] at ek
      repeat walk_at "rd"
      refine i_dec (fun z => ?_) (fun z => ?_)
      · rw [if_pos (by omega)] at ek
        repeat walk_at "rd"
        exact ⟨_, by rw [ek]; rfl, rfl⟩
      rw [if_neg (by omega)] at ek
      repeat walk_at "rd"
      exact ⟨_, by rw [ek]; rfl, rfl⟩
    · rintro σ' H10 ⟨w5, rfl, rfl⟩
      repeat walk_at "rd"
      refine ⟨y, c, d.2, rfl, hc, (ea.same s58).same s9, fun r11 H11 n11 s11 h11 => ?_⟩
      repeat walk_at "rd"
      refine i_lcr ?_
      repeat walk_at "rd"
      refine i_rlcRF (fun t => V.bl (inV (.int ((t : Nat) : Int)) [.int (c.2 : Int), .int ((c.2 : Int) + 4)])) (by decide) (by decide) (fun x => rfl) ?_ ?_
      · intro t H12 Q' ht s12 q'
        dsimp only [List.map, wipe, List.set]
        repeat walk_at "rd"
        refine i_mkT2 fun tp H13 n13 h13 s13 => ?_
        exact ⟨tp, _, rfl, .inr (SqT.of h13), rfl, rfl, q' _ s13⟩
      intro r12 H12 n12 s12 h12
      have eb : (List.range (9 : Int).toNat).map (fun t : Nat => V.bl (inV (.int (t : Int)) [.int (c.2 : Int), .int ((c.2 : Int) + 4)])) = [V.bl (bB c.2 0), V.bl (bB c.2 1), V.bl (bB c.2 2), V.bl (bB c.2 3), V.bl (bB c.2 4), V.bl (bB c.2 5), V.bl (bB c.2 6), V.bl (bB c.2 7), V.bl (bB c.2 8)] := by
        rcases k_leaf T hc with e | e | e | e <;> rw [e] <;> decide +kernel
      rw [eb] at h12
      refine i_neS (s12 _ _ h11) h12 ?_ ?_
      · intro z hz
        simp only [List.mem_cons, List.not_mem_nil, or_false] at hz
        rcases hz with rfl | rfl | rfl | rfl | rfl | rfl | rfl | rfl | rfl <;> rfl
      repeat walk_at "rd"
      exact ⟨_, _, _, _, rfl, (((s35.trans s58).trans s9).trans s11).trans s12⟩
  · rintro σ' H4 ⟨w1, w2, w3, w4, rfl, s4⟩
    repeat walk_at "rd"
    exact q H4 (s03.trans s4)
end Lw

namespace Ly
open PySem PySem.Spec PyProof.Rows L2
theorem pe_xfK {X : Cx} {K : PySem.W.Frag} {e : Expr} {te : TE} {pos : Pos} {n : Str} (hK : X.K = K) (he : PE X e te) (hb : attributeBase e n X.env (eval e X.env) = eval e X.env) : PE X (.Attribute e n pos) (tXf K n te) := by
  subst hK
  exact pe_xfv he hb
section
variable {K : PySem.W.Frag} {σ : L2.St} {H : Hp} {Q : VK} {te : TE} {p l : Addr} {xs : List V} {j : Nat} {vs : List Nat} {v w : V}
theorem i_rlcC (hl : H l = some (.lst xs)) (hz : xs.length ≤ 1000) (hw : ∀ x, wipe ((wipe σ vs).set j (some x)) vs = wipe σ vs)
    (elt : ∀ x H' (Q' : VK), x ∈ xs → Same H H' → Q' v H' → te ((wipe σ vs).set j (some x)) H' Q')
    (fin : ∀ r H', H r = none → Same H H' → H' r = some (.lst (List.replicate xs.length v)) → Q (.ref r) H') : rLcL K (gName j) tYes te vs σ (.ref l) H Q :=
  i_rlcF (fun _ => true) (fun _ => v) (SqL.of hl) (fun H' s => SqL.of (s _ _ hl)) hz hw (fun x H' R hx s hR => hR) (fun x H' Q' hx _ s q' => elt x H' Q' hx s (q' _ (Same.refl _)))
    (fun r H' n s e => fin r H' n s (by
      rw [e]
      congr 2
      rw [List.filter_eq_self.mpr fun _ _ => rfl]
      exact List.map_const' ..))
theorem i_rep1 {n : Nat} (h : H l = some (.lst [v])) (z : n ≤ 1000) (q : ∀ r H', H r = none → H' r = some (.lst (List.replicate n v)) → Same H H' → Q (.ref r) H') : rMulU (.ref l) (.int (n : Int)) H Q := by
  refine .inr ⟨l, n, [v], rfl, rfl, h, by omega, by omega, ?_, ?_⟩
  · rw [List.length_singleton, Int.toNat_natCast, Nat.one_mul]
    exact sl_of (by omega)
  · rw [Int.toNat_natCast, show (List.replicate n [v]).flatten = List.replicate n v from ?_]
    · exact i_new q
    · clear q z h
      induction n with
      | zero => rfl
      | succ n ih => rw [List.replicate_succ, List.flatten_cons, ih, List.replicate_succ]; rfl
theorem i_slFT {a b : Nat} (h : H p = some (.lst xs)) (z : a ≤ b) (z2 : b ≤ xs.length) (q : ∀ r H', H r = none → H' r = some (.lst ((xs.drop a).take (b - a))) → Same H H' → Q (.ref r) H') : rSlL K (.ref p) (some (a : Int)) (some (b : Int)) H Q := by
  refine ⟨p, xs, rfl, SqL.of h, ?_⟩
  have e : cutV xs (some (a : Int)) (some (b : Int)) = (xs.drop a).take (b - a) := by
    unfold cutV
    rw [HT.sIx_nat, HT.sIx_nat, Nat.min_eq_left z2, Nat.min_eq_left (Nat.le_trans z z2)]
  rw [e]
  exact i_new q
theorem all_rep {n : Nat} (ok : okS v = true) : ∀ z ∈ List.replicate n v, okS z = true := fun z hz => by
  rw [List.eq_of_mem_replicate hz]
  exact ok
theorem look1a {x : Str × V} (f : Str) : List.lookup f ((f, v) :: [x]) = some v := by
  simp [List.lookup]
theorem look2 (f g : Str) (h : (f == g) = false) : List.lookup f [(g, w), (f, v)] = some v := by
  simp [List.lookup, h]
theorem ok4 (hv : okS v = true) (hw : okS w = true) : ∀ z ∈ [v, w, v, w], okS z = true := fun z hz => by
  simp only [List.mem_cons, List.not_mem_nil, or_false] at hz
  rcases hz with rfl | rfl | rfl | rfl <;> assumption
theorem ok5 (hv : okS v = true) (hw : okS w = true) : ∀ z ∈ [v, v, v, v, w], okS z = true := fun z hz => by
  simp only [List.mem_cons, List.not_mem_nil, or_false] at hz
  rcases hz with rfl | rfl | rfl | rfl | rfl <;> assumption
theorem look1 (f : Str) : List.lookup f [(f, v)] = some v := by
  simp [List.lookup]
end
end Ly
namespace Lw
open PySem PySem.Spec PyProof.Rows L2 Ly
local macro_rules | `(tactic| walk_at "rd") => `(tactic| first
  | ((with_reducible refine' i_var ?hv ?_); (case hv => exact rfl))
  | with_reducible refine i_c ?_
  | with_reducible refine i_op ?_
  | with_reducible refine i_cons ?_
  | with_reducible refine i_nil ?_
  | with_reducible refine i_cb ?_
  | with_reducible refine i_call ?_
  | with_reducible refine i_I0 ?_
  | with_reducible refine i_add_i ?_
  | with_reducible refine i_sub_i ?_
  | with_reducible refine i_md_i (by first | decide | assumption) ?_
  | ((with_reducible refine' i_md_i ?c ?_); rotate_left)
  | ((with_reducible refine' i_mul_i ?c ?_); rotate_left)
  | with_reducible refine i_fd_i (by decide) ?_
  | ((with_reducible refine' i_fd_i ?c ?_); rotate_left)
  | with_reducible refine i_int ?_
  | with_reducible refine i_abs ?_
  | with_reducible refine i_max2 ?_
  | with_reducible refine i_min2 ?_
  | with_reducible refine i_gcd ?_
  | with_reducible refine i_seq ?_
  | with_reducible refine i_if ?_
  | with_reducible refine i_asg ?_
  | with_reducible refine i_ret ?_
  | with_reducible refine i_drop ?_
  | with_reducible refine i_next ?_
  | with_reducible refine i_un ?_
  | with_reducible refine i_U ?_
  | ((with_reducible refine i_gname ?_); dsimp only [List.set])
  | with_reducible refine i_test ?_
  | with_reducible refine i_not ?_
  | with_reducible refine i_or ?_
  | with_reducible refine i_and ?_
  | with_reducible refine i_tb ?_
  | with_reducible refine i_andV ?_
  | with_reducible refine i_orV ?_
  | with_reducible refine i_notV ?_
  | with_reducible refine i_ifx ?_
  | with_reducible refine i_ext ?_
  | with_reducible refine i_exf ?_
  | with_reducible refine i_exn ?_
  | with_reducible refine i_itt ?_
  | with_reducible refine i_itf ?_
  | with_reducible refine i_gsub ?_
  | with_reducible refine i_nt ?_
  | with_reducible refine i_tup ?_
  | with_reducible refine i_lst ?_
  | with_reducible refine i_nf ?_
  | with_reducible refine i_isint ?_
  | ((with_reducible refine' i_top ?r ?_); (case r => walk_at "hp"))
  | ((with_reducible refine' i_bot ?r ?_); (case r => walk_at "hp"))
  | with_reducible refine i_fld ?_
  | with_reducible refine i_sfld ?_
  | with_reducible refine i_pp ?_
  | with_reducible refine i_meth ?_
  | with_reducible refine i_smeth ?_
  | with_reducible refine i_make ?_
  | with_reducible refine i_sl ?_
  | with_reducible refine i_noPart ?_
  | with_reducible refine i_part ?_
  | with_reducible refine i_smethK ?_
  | with_reducible refine i_sk1 ?_
  | with_reducible refine i_makeK ?_
  | with_reducible refine i_methK ?_
  | with_reducible refine i_mk11 ?_
  | ((with_reducible refine' i_rmk ?r ?h1 ?h2 ?_); (case r => walk_at "hp"); (case h1 => decide +kernel); (case h2 => decide +kernel))
  | with_reducible refine i_tpar ?_
  | ((with_reducible refine i_rpar ?_); dsimp only [List.set])
  | with_reducible refine i_eq_s rfl ?_
  | with_reducible refine i_ne_s rfl ?_
  | ((with_reducible refine' i_rtop ?r ?c ?n ?_); (case r => walk_at "hp"); (case c => assumption); (case n => assumption))
  | ((with_reducible refine' i_rbot ?r ?c ?n ?_); (case r => walk_at "hp"); (case c => assumption); (case n => assumption))
  | ((with_reducible refine' i_rpp ?r ?_); (case r => walk_at "hp"))
  | ((with_reducible refine' i_rmeth ?r ?h1 ?h2 ?_); (case r => walk_at "hp"); (case h1 => decide +kernel); (case h2 => decide +kernel))
  | ((with_reducible refine' i_ix_l ?hp ?ha ?_); (case hp => walk_at "hp"); (case ha => exact rfl))
  | ((with_reducible refine' i_len_l ?hp ?_); (case hp => walk_at "hp"))
  | ((with_reducible refine' i_ix_f0 ?hp ?_); (case hp => walk_at "hp"))
  | ((with_reducible refine' i_ix_f1 ?hp ?_); (case hp => walk_at "hp"))
  | ((with_reducible refine' i_ix_t ?hp ?ha ?_); (case hp => walk_at "hp"); (case ha => exact rfl)))
local macro_rules | `(tactic| walk_at "hp") => `(tactic| first
  | assumption
  | exact upd_same
  | exact SqL.of (by assumption)
  | (refine' Dr.tup (by assumption) ?hq; (case hq => walk_at "hp"))
  | (refine' FrL.same (by assumption) ?hq; (case hq => walk_at "hp"))
  | (refine' FracAt.same (by assumption) ?hq; (case hq => walk_at "hp"))
  | (refine' FracAt.nl (by assumption) ?hq; (case hq => walk_at "hp"))
  | (refine' RatAt.nl (by assumption) ?hq; (case hq => walk_at "hp"))
  | (refine' Num.nl (by assumption) ?hq; (case hq => walk_at "hp"))
  | (refine' FracAt.pk (by assumption) ?hq; (case hq => walk_at "hp"))
  | (refine' RatAt.pk (by assumption) ?hq; (case hq => walk_at "hp"))
  | (refine' Num.pk (by assumption) ?hq; (case hq => walk_at "hp"))
  | (refine' Dr.keep (by assumption) _ _ (by assumption) ?hq; (case hq => walk_at "hp"))
  | (refine' (show Same _ _ by assumption) _ _ ?hq; (case hq => walk_at "hp"))
  | (refine' RatAt.same (by assumption) ?hq; (case hq => walk_at "hp"))
  | (refine' Num.same (by assumption) ?hq; (case hq => walk_at "hp")))
local macro_rules | `(tactic| walk_at "sm") => `(tactic| first
  | assumption
  | exact Same.refl _
  | (refine' Same.kl (by assumption) (by assumption) ?aa; (case aa => walk_at "sm"))
  | (refine' Same.trans ?aa (by assumption); (case aa => walk_at "sm")))
local macro_rules | `(tactic| walk_at "dr") => `(tactic| first
  | assumption
  | (refine' Dr.same ?aa (by assumption); (case aa => walk_at "dr"))
  | (refine' Dr.trans ?aa (by assumption); (case aa => walk_at "dr")))

local macro_rules | `(tactic| walk_at "rd") => `(tactic| with_reducible refine i_xf ?_)
local macro_rules | `(tactic| walk_at "hp") => `(tactic| first | with_reducible assumption | (with_reducible refine' ExAt.same (by with_reducible assumption) ?hq; (case hq => walk_at "hp")))
variable {W : Wd} {a : Ad}
def spFields : Sp := fun vs H Q _ => ∃ v w : V, vs = [v, w] ∧ okS v = true ∧ okS w = true ∧ ∀ H', Same H H' → Q (.bl true) H'
theorem k_law_fields_right (T : Txt W.K W.mg a) : Cl W 5 "_law_fields_right" spFields := by
  refine cl_of' T.d_law_fields_right sc_law_fields_right bd_law_fields_right (fun vs H Q E h => by obtain ⟨v, w, h, _⟩ := h; rw [h]; rfl) fun f cdv A outer s H vs Q E hr h => ?_
  obtain ⟨v, w, rfl, ov, ow, q⟩ := h
  refine ⟨_, (pss_cons (ps_par (i := 2) (j := 3) (by rfl) sc_law_fields_right.nd rfl rfl (by decide) rfl rfl (pa_cons (pe_cl (k_law_load_errors T) hr (by decide) rfl (pa_cons (pv 0) pa_nil)) (pa_cons (pe_cl (k_law_other_errors T) hr (by decide) rfl (pa_cons (pv 0) (pa_cons (pv 1) pa_nil))) pa_nil)) (by rfl)) (pss_cons (ps_if (PW.pt (pw_or (pt_cmpR (r := rNeS W.K) (op_neS hr.units) (pe_lc (own := [("_law_e", 4)]) (g := (gName 4)) (tt := tYes) rfl sc_law_fields_right.nd (pi_listK (K := W.K) rfl (pe_op op_addU (pe_slice (r := rSlL W.K) sl_list (pv 2) po_none (po_some pe_int)) (pe_slice (r := rSlL W.K) sl_list (pv 3) po_none (po_some pe_int)))) (blkOk_by (N := N_law_fields_right) (sc := defScope s_law_fields_right) (by decide +kernel)) (fun _ _ _ _ _ => (pg_name (i := 4) sc_law_fields_right.nd rfl (Or.inl rfl))) (fun _ _ _ _ _ => pts_nil) (fun _ _ _ _ _ => (pe_xfK (K := W.K) rfl (pv 4) rfl))) (pe_op op_mulU (pe_lst (pa_cons (pv 0) pa_nil)) pe_int) (nomark _)) (pw_or1 (pt_cmpR (r := rNeS W.K) (op_neS hr.units) (pe_lc (own := [("_law_e", 4)]) (g := (gName 4)) (tt := tYes) rfl sc_law_fields_right.nd (pi_listK (K := W.K) rfl (pe_slice (r := rSlL W.K) sl_list (pv 2) (po_some pe_int) (po_some pe_int))) (blkOk_by (N := N_law_fields_right) (sc := defScope s_law_fields_right) (by decide +kernel)) (fun _ _ _ _ _ => (pg_name (i := 4) sc_law_fields_right.nd rfl (Or.inl rfl))) (fun _ _ _ _ _ => pts_nil) (fun _ _ _ _ _ => (pe_xfK (K := W.K) rfl (pv 4) rfl))) (pe_op op_mulU (pe_lst (pa_cons (pv 0) pa_nil)) pe_int) (nomark _))))) (pss_one (ps_ret pe_bl)) pss_nil) (pss_cons (ps_if (pt_cmpR (r := rNeS W.K) (op_neS hr.units) (pe_lst (pa_cons (pe_xfK (K := W.K) rfl (pe_ix (r := rIx W.K) ix_U (pv 2) pe_int (fun _ _ => rfl)) rfl) (pa_cons (pe_xfK (K := W.K) rfl (pe_ix (r := rIx W.K) ix_U (pv 2) pe_int (fun _ _ => rfl)) rfl) (pa_cons (pe_xfK (K := W.K) rfl (pe_ix (r := rIx W.K) ix_U (pv 2) pe_int (fun _ _ => rfl)) rfl) (pa_cons (pe_xfK (K := W.K) rfl (pe_ix (r := rIx W.K) ix_U (pv 2) pe_int (fun _ _ => rfl)) rfl) pa_nil))))) (pe_op op_mulU (pe_lst (pa_cons (pv 0) pa_nil)) pe_int) (nomark _)) (pss_one (ps_ret pe_bl)) pss_nil) (pss_cons (ps_if (pt_cmpR (r := rNeS W.K) (op_neS hr.units) (pe_lst (pa_cons (pe_xfK (K := W.K) rfl (pe_ix (r := rIx W.K) ix_U (pv 3) pe_int (fun _ _ => rfl)) rfl) (pa_cons (pe_xfK (K := W.K) rfl (pe_ix (r := rIx W.K) ix_U (pv 3) pe_int (fun _ _ => rfl)) rfl) (pa_cons (pe_xfK (K := W.K) rfl (pe_ix (r := rIx W.K) ix_U (pv 3) pe_int (fun _ _ => rfl)) rfl) (pa_cons (pe_xfK (K := W.K) rfl (pe_ix (r := rIx W.K) ix_U (pv 3) pe_int (fun _ _ => rfl)) rfl) pa_nil))))) (pe_lst (pa_cons (pv 0) (pa_cons (pv 1) (pa_cons (pv 0) (pa_cons (pv 1) pa_nil))))) (nomark _)) (pss_one (ps_ret pe_bl)) pss_nil) (pss_one (ps_ret (pe_cmpR (r := rEqV W.K) (op_eqV hr.units) (pe_lst (pa_cons (pe_xfK (K := W.K) rfl (pe_ix (r := rIx W.K) ix_U (pv 3) pe_int (fun _ _ => rfl)) rfl) (pa_cons (pe_xfK (K := W.K) rfl (pe_ix (r := rIx W.K) ix_U (pv 3) pe_int (fun _ _ => rfl)) rfl) (pa_cons (pe_xfK (K := W.K) rfl (pe_ix (r := rIx W.K) ix_U (pv 3) pe_int (fun _ _ => rfl)) rfl) (pa_cons (pe_xfK (K := W.K) rfl (pe_ix (r := rIx W.K) ix_U (pv 3) pe_int (fun _ _ => rfl)) rfl) (pa_cons (pe_xfK (K := W.K) rfl (pe_ix (r := rIx W.K) ix_U (pv 3) pe_int (fun _ _ => rfl)) rfl) pa_nil)))))) (pe_op op_addU (pe_op op_mulU (pe_lst (pa_cons (pv 0) pa_nil)) pe_int) (pe_lst (pa_cons (pv 1) pa_nil))) (nomark _)))))))), ?_⟩
  refine i_start (σ' := [some v, some w, none, none, none]) rfl ?_
  repeat walk_at "rd"
  refine ⟨v, rfl, fun l1 H1 xs n1 s1 h1 e1 => ?_⟩
  repeat walk_at "rd"
  refine ⟨v, w, rfl, fun l2 H2 ys n2 s2 h2 e2 => ?_⟩
  replace h1 := s2 _ _ h1
  replace e1 := e1.same s2
  have s02 := s1.trans s2
  clear s1 s2 n1 n2
  have lx : xs.length = 20 := e1.ix.1
  have ly : ys.length = 17 := e2.ix.1
  rcases xs with _ | ⟨x0, xs⟩
  · exfalso; simp only [List.length_cons, List.length_nil] at lx; omega
  rcases xs with _ | ⟨x1, xs⟩
  · exfalso; simp only [List.length_cons, List.length_nil] at lx; omega
  rcases xs with _ | ⟨x2, xs⟩
  · exfalso; simp only [List.length_cons, List.length_nil] at lx; omega
  rcases xs with _ | ⟨x3, xs⟩
  · exfalso; simp only [List.length_cons, List.length_nil] at lx; omega
  rcases xs with _ | ⟨x4, xs⟩
  · exfalso; simp only [List.length_cons, List.length_nil] at lx; omega
  rcases xs with _ | ⟨x5, xs⟩
  · exfalso; simp only [List.length_cons, List.length_nil] at lx; omega
  rcases xs with _ | ⟨x6, xs⟩
  · exfalso; simp only [List.length_cons, List.length_nil] at lx; omega
  rcases xs with _ | ⟨x7, xs⟩
  · exfalso; simp only [List.length_cons, List.length_nil] at lx; omega
  rcases xs with _ | ⟨x8, xs⟩
  · exfalso; simp only [List.length_cons, List.length_nil] at lx; omega
  rcases xs with _ | ⟨x9, xs⟩
  · exfalso; simp only [List.length_cons, List.length_nil] at lx; omega
  rcases xs with _ | ⟨x10, xs⟩
  · exfalso; simp only [List.length_cons, List.length_nil] at lx; omega
  rcases xs with _ | ⟨x11, xs⟩
  · exfalso; simp only [List.length_cons, List.length_nil] at lx; omega
  rcases xs with _ | ⟨x12, xs⟩
  · exfalso; simp only [List.length_cons, List.length_nil] at lx; omega
  rcases xs with _ | ⟨x13, xs⟩
  · exfalso; simp only [List.length_cons, List.length_nil] at lx; omega
  rcases xs with _ | ⟨x14, xs⟩
  · exfalso; simp only [List.length_cons, List.length_nil] at lx; omega
  rcases xs with _ | ⟨x15, xs⟩
  · exfalso; simp only [List.length_cons, List.length_nil] at lx; omega
  rcases xs with _ | ⟨x16, xs⟩
  · exfalso; simp only [List.length_cons, List.length_nil] at lx; omega
  rcases xs with _ | ⟨x17, xs⟩
  · exfalso; simp only [List.length_cons, List.length_nil] at lx; omega
  rcases xs with _ | ⟨x18, xs⟩
  · exfalso; simp only [List.length_cons, List.length_nil] at lx; omega
  rcases xs with _ | ⟨x19, xs⟩
  · exfalso; simp only [List.length_cons, List.length_nil] at lx; omega
  rcases xs with _ | ⟨zz, xs⟩
  rotate_left
  · exfalso; simp only [List.length_cons, List.length_nil] at lx; omega
  rcases ys with _ | ⟨y0, ys⟩
  · exfalso; simp only [List.length_cons, List.length_nil] at ly; omega
  rcases ys with _ | ⟨y1, ys⟩
  · exfalso; simp only [List.length_cons, List.length_nil] at ly; omega
  rcases ys with _ | ⟨y2, ys⟩
  · exfalso; simp only [List.length_cons, List.length_nil] at ly; omega
  rcases ys with _ | ⟨y3, ys⟩
  · exfalso; simp only [List.length_cons, List.length_nil] at ly; omega
  rcases ys with _ | ⟨y4, ys⟩
  · exfalso; simp only [List.length_cons, List.length_nil] at ly; omega
  rcases ys with _ | ⟨y5, ys⟩
  · exfalso; simp only [List.length_cons, List.length_nil] at ly; omega
  rcases ys with _ | ⟨y6, ys⟩
  · exfalso; simp only [List.length_cons, List.length_nil] at ly; omega
  rcases ys with _ | ⟨y7, ys⟩
  · exfalso; simp only [List.length_cons, List.length_nil] at ly; omega
  rcases ys with _ | ⟨y8, ys⟩
  · exfalso; simp only [List.length_cons, List.length_nil] at ly; omega
  rcases ys with _ | ⟨y9, ys⟩
  · exfalso; simp only [List.length_cons, List.length_nil] at ly; omega
  rcases ys with _ | ⟨y10, ys⟩
  · exfalso; simp only [List.length_cons, List.length_nil] at ly; omega
  rcases ys with _ | ⟨y11, ys⟩
  · exfalso; simp only [List.length_cons, List.length_nil] at ly; omega
  rcases ys with _ | ⟨y12, ys⟩
  · exfalso; simp only [List.length_cons, List.length_nil] at ly; omega
  rcases ys with _ | ⟨y13, ys⟩
  · exfalso; simp only [List.length_cons, List.length_nil] at ly; omega
  rcases ys with _ | ⟨y14, ys⟩
  · exfalso; simp only [List.length_cons, List.length_nil] at ly; omega
  rcases ys with _ | ⟨y15, ys⟩
  · exfalso; simp only [List.length_cons, List.length_nil] at ly; omega
  rcases ys with _ | ⟨y16, ys⟩
  · exfalso; simp only [List.length_cons, List.length_nil] at ly; omega
  rcases ys with _ | ⟨zz, ys⟩
  rotate_left
  · exfalso; simp only [List.length_cons, List.length_nil] at ly; omega
  obtain ⟨a0, a1, a2, a3, a4, a5, a6, a7, a8, a9, a10, a11, a12, a13, a14, a15, a16, a17, a18, a19, _⟩ := e1
  obtain ⟨b0, b1, b2, b3, b4, b5, b6, b7, b8, b9, b10, b11, b12, b13, b14, b15, b16, _⟩ := e2
  repeat walk_at "rd"
  refine i_lcl ?_
  repeat walk_at "rd"
  refine ⟨14, rfl, i_slTo (n := 14) h1 (by show 14 ≤ 20; decide) fun l3 H3 n3 h3 s3 => ?_⟩
  repeat walk_at "rd"
  refine ⟨9, rfl, i_slTo (n := 9) (s3 _ _ h2) (by show 9 ≤ 17; decide) fun l4 H4 n4 h4 s4 => ?_⟩
  repeat walk_at "rd"
  refine i_cat (s4 _ _ h3) h4 (by show 23 ≤ 1000; decide) fun l5 H5 n5 h5 s5 => ?_
  repeat walk_at "rd"
  have sc : Same H2 H5 := (s3.trans s4).trans s5
  clear s3 s4 s5
  refine i_rlcC (v := v) h5 (by show 23 ≤ 1000; decide) (fun x => rfl) ?_ ?_
  · intro z H' Q' hz s' q'
    have sz := sc.trans s'
    have hz2 : z ∈ [V.ref x0, V.ref x1, V.ref x2, V.ref x3, V.ref x4, V.ref x5, V.ref x6, V.ref x7, V.ref x8, V.ref x9, V.ref x10, V.ref x11, V.ref x12, V.ref x13, V.ref y0, V.ref y1, V.ref y2, V.ref y3, V.ref y4, V.ref y5, V.ref y6, V.ref y7, V.ref y8] := hz
    simp only [List.mem_cons, List.not_mem_nil, or_false] at hz2
    rcases hz2 with rfl | rfl | rfl | rfl | rfl | rfl | rfl | rfl | rfl | rfl | rfl | rfl | rfl | rfl | rfl | rfl | rfl | rfl | rfl | rfl | rfl | rfl | rfl
    · dsimp only [List.map, wipe, List.set]
      repeat walk_at "rd"
      exact i_rxf (a0.same sz) T.e_InvalidNumber.xk T.n_InvalidNumber_value (look1 _) q'
    · dsimp only [List.map, wipe, List.set]
      repeat walk_at "rd"
      exact i_rxf (a1.same sz) T.e_InvalidName.xk T.n_InvalidName_value (look1 _) q'
    · dsimp only [List.map, wipe, List.set]
      repeat walk_at "rd"
      exact i_rxf (a2.same sz) T.e_InvalidServers.xk T.n_InvalidServers_value (look1 _) q'
    · dsimp only [List.map, wipe, List.set]
      repeat walk_at "rd"
      exact i_rxf (a3.same sz) T.e_InvalidTasks.xk T.n_InvalidTasks_value (look1 _) q'
    · dsimp only [List.map, wipe, List.set]
      repeat walk_at "rd"
      exact i_rxf (a4.same sz) T.e_InvalidWork.xk T.n_InvalidWork_value (look1 _) q'
    · dsimp only [List.map, wipe, List.set]
      repeat walk_at "rd"
      exact i_rxf (a5.same sz) T.e_InvalidYard.xk T.n_InvalidYard_value (look1 _) q'
    · dsimp only [List.map, wipe, List.set]
      repeat walk_at "rd"
      exact i_rxf (a6.same sz) T.e_InvalidAmounts.xk T.n_InvalidAmounts_value (look1 _) q'
    · dsimp only [List.map, wipe, List.set]
      repeat walk_at "rd"
      exact i_rxf (a7.same sz) T.e_InvalidPlan.xk T.n_InvalidPlan_value (look1 _) q'
    · dsimp only [List.map, wipe, List.set]
      repeat walk_at "rd"
      exact i_rxf (a8.same sz) T.e_InvalidGift.xk T.n_InvalidGift_value (look1 _) q'
    · dsimp only [List.map, wipe, List.set]
      repeat walk_at "rd"
      exact i_rxf (a9.same sz) T.e_InvalidShare.xk T.n_InvalidShare_value (look1 _) q'
    · dsimp only [List.map, wipe, List.set]
      repeat walk_at "rd"
      exact i_rxf (a10.same sz) T.e_InvalidBounds.xk T.n_InvalidBounds_value (look1 _) q'
    · dsimp only [List.map, wipe, List.set]
      repeat walk_at "rd"
      exact i_rxf (a11.same sz) T.e_InvalidAssignment.xk T.n_InvalidAssignment_value (look1 _) q'
    · dsimp only [List.map, wipe, List.set]
      repeat walk_at "rd"
      exact i_rxf (a12.same sz) T.e_InvalidClaim.xk T.n_InvalidClaim_value (look1 _) q'
    · dsimp only [List.map, wipe, List.set]
      repeat walk_at "rd"
      exact i_rxf (a13.same sz) T.e_InvalidCommand.xk T.n_InvalidCommand_value (look1 _) q'
    · dsimp only [List.map, wipe, List.set]
      repeat walk_at "rd"
      exact i_rxf (b0.same sz) T.e_UnknownServer.xk T.n_UnknownServer_value (look1 _) q'
    · dsimp only [List.map, wipe, List.set]
      repeat walk_at "rd"
      exact i_rxf (b1.same sz) T.e_UnknownTask.xk T.n_UnknownTask_value (look1 _) q'
    · dsimp only [List.map, wipe, List.set]
      repeat walk_at "rd"
      exact i_rxf (b2.same sz) T.e_UnknownPlace.xk T.n_UnknownPlace_value (look1 _) q'
    · dsimp only [List.map, wipe, List.set]
      repeat walk_at "rd"
      exact i_rxf (b3.same sz) T.e_ServerTaken.xk T.n_ServerTaken_value (look1 _) q'
    · dsimp only [List.map, wipe, List.set]
      repeat walk_at "rd"
      exact i_rxf (b4.same sz) T.e_TaskTaken.xk T.n_TaskTaken_value (look1 _) q'
    · dsimp only [List.map, wipe, List.set]
      repeat walk_at "rd"
      exact i_rxf (b5.same sz) T.e_PlaceTaken.xk T.n_PlaceTaken_value (look1 _) q'
    · dsimp only [List.map, wipe, List.set]
      repeat walk_at "rd"
      exact i_rxf (b6.same sz) T.e_LastPlace.xk T.n_LastPlace_value (look1 _) q'
    · dsimp only [List.map, wipe, List.set]
      repeat walk_at "rd"
      exact i_rxf (b7.same sz) T.e_OutOfSpan.xk T.n_OutOfSpan_value (look1 _) q'
    · dsimp only [List.map, wipe, List.set]
      repeat walk_at "rd"
      exact i_rxf (b8.same sz) T.e_NotWhole.xk T.n_NotWhole_value (look1 _) q'
  intro l6 H6 n6 s6 h6
  repeat walk_at "rd"
  refine i_mkL1 fun l7 H7 n7 h7 s7 => ?_
  repeat walk_at "rd"
  refine i_rep1 (n := 23) h7 (by decide) fun l8 H8 n8 h8 s8 => ?_
  refine i_neS (s8 _ _ (s7 _ _ h6)) h8 (all_rep ov) ?_
  replace sc := ((sc.trans s6).trans s7).trans s8
  clear s6 s7 s8
  repeat walk_at "rd"
  refine i_lcl ?_
  repeat walk_at "rd"
  refine ⟨14, rfl, 16, rfl, i_slFT (a := 14) (b := 16) (sc _ _ h1) (by decide) (by show 16 ≤ 20; decide) fun l9 H9 n9 h9 s9 => ?_⟩
  replace sc := sc.trans s9
  clear s9
  repeat walk_at "rd"
  refine i_rlcC (v := v) h9 (by show 2 ≤ 1000; decide) (fun x => rfl) ?_ ?_
  · intro z H' Q' hz s' q'
    have sz := sc.trans s'
    have hz2 : z ∈ [V.ref x14, V.ref x15] := hz
    simp only [List.mem_cons, List.not_mem_nil, or_false] at hz2
    rcases hz2 with rfl | rfl
    · dsimp only [List.map, wipe, List.set]
      repeat walk_at "rd"
      exact i_rxf (a14.same sz) T.e_InvalidMoves.xk T.n_InvalidMoves_position (look1 _) q'
    · dsimp only [List.map, wipe, List.set]
      repeat walk_at "rd"
      exact i_rxf (a15.same sz) T.e_InvalidLines.xk T.n_InvalidLines_position (look1 _) q'
  intro l10 H10 n10 s10 h10
  repeat walk_at "rd"
  refine i_mkL1 fun l11 H11 n11 h11 s11 => ?_
  repeat walk_at "rd"
  refine i_rep1 (n := 2) h11 (by decide) fun l12 H12 n12 h12 s12 => ?_
  refine i_neS (s12 _ _ (s11 _ _ h10)) h12 (all_rep ov) ?_
  replace sc := ((sc.trans s10).trans s11).trans s12
  clear s10 s11 s12
  repeat walk_at "rd"
  repeat walk_at "rd"
  refine i_rxf (a16.same sc) T.e_InvalidSpeed.xk T.n_InvalidSpeed_server (look1 _) ?_
  repeat walk_at "rd"
  refine i_rxf (a17.same sc) T.e_InvalidTask.xk T.n_InvalidTask_name (look1 _) ?_
  repeat walk_at "rd"
  refine i_rxf (a18.same sc) T.e_WrongSum.xk T.n_WrongSum_name (look1 _) ?_
  repeat walk_at "rd"
  refine i_rxf (a19.same sc) T.e_InvalidText.xk T.n_InvalidText_line (look1 _) ?_
  repeat walk_at "rd"
  refine i_mkL (by show 4 ≤ 1000; decide) fun l13 H13 n13 h13 s13 => ?_
  repeat walk_at "rd"
  refine i_mkL1 fun l14 H14 n14 h14 s14 => ?_
  repeat walk_at "rd"
  refine i_rep1 (n := 4) h14 (by decide) fun l15 H15 n15 h15 s15 => ?_
  refine i_neS (s15 _ _ (s14 _ _ h13)) h15 (all_rep (n := 4) ov) ?_
  replace sc := ((sc.trans s13).trans s14).trans s15
  clear s13 s14 s15
  repeat walk_at "rd"
  repeat walk_at "rd"
  refine i_rxf (b9.same sc) T.e_OtherServers.xk T.n_OtherServers_one (look2 _ _ (by decide +kernel)) ?_
  repeat walk_at "rd"
  refine i_rxf (b9.same sc) T.e_OtherServers.xk T.n_OtherServers_other (look1a _) ?_
  repeat walk_at "rd"
  refine i_rxf (b10.same sc) T.e_OtherYard.xk T.n_OtherYard_one (look2 _ _ (by decide +kernel)) ?_
  repeat walk_at "rd"
  refine i_rxf (b10.same sc) T.e_OtherYard.xk T.n_OtherYard_other (look1a _) ?_
  repeat walk_at "rd"
  refine i_mkL (by show 4 ≤ 1000; decide) fun l16 H16 n16 h16 s16 => ?_
  repeat walk_at "rd"
  refine i_mkL4 fun l17 H17 n17 h17 s17 => ?_
  refine i_neS (s17 _ _ h16) h17 (ok4 ov ow) ?_
  replace sc := (sc.trans s16).trans s17
  clear s16 s17
  repeat walk_at "rd"
  repeat walk_at "rd"
  refine i_rxf (b11.same sc) T.e_Impossible.xk T.n_Impossible_position (look1 _) ?_
  repeat walk_at "rd"
  refine i_rxf (b12.same sc) T.e_CommandFailed.xk T.n_CommandFailed_position (look1 _) ?_
  repeat walk_at "rd"
  refine i_rxf (b13.same sc) T.e_Overfull.xk T.n_Overfull_bar (look1 _) ?_
  repeat walk_at "rd"
  refine i_rxf (b16.same sc) T.e_TooMany.xk T.n_TooMany_what (look2 _ _ (by decide +kernel)) ?_
  repeat walk_at "rd"
  refine i_rxf (b16.same sc) T.e_TooMany.xk T.n_TooMany_limit (look1a _) ?_
  repeat walk_at "rd"
  refine i_mkL (by show 5 ≤ 1000; decide) fun l18 H18 n18 h18 s18 => ?_
  repeat walk_at "rd"
  refine i_mkL1 fun l19 H19 n19 h19 s19 => ?_
  repeat walk_at "rd"
  refine i_rep1 (n := 4) h19 (by decide) fun l20 H20 n20 h20 s20 => ?_
  repeat walk_at "rd"
  refine i_mkL1 fun l21 H21 n21 h21 s21 => ?_
  repeat walk_at "rd"
  refine i_cat (s21 _ _ h20) h21 (by show 5 ≤ 1000; decide) fun l22 H22 n22 h22 s22 => ?_
  refine i_eqS (s22 _ _ (s21 _ _ (s20 _ _ (s19 _ _ h18)))) h22 (ok5 ov ow) ?_
  exact q _ (s02.trans (((((sc.trans s18).trans s19).trans s20).trans s21).trans s22))
end Lw

namespace Ly
open PySem PySem.Spec PyProof.Rows L2
section
variable {H : Hp} {Q : VK} {l : Addr} {v w : V}
theorem i_rep23 (h : H l = some (.lst [v, w])) (q : ∀ r H', H r = none → H' r = some (.lst [v, w, v, w, v, w]) → Same H H' → Q (.ref r) H') : rMulU (.ref l) (.int 3) H Q :=
  .inr ⟨l, 3, [v, w], rfl, rfl, h, by decide, by decide, sl_of (by show 6 ≤ 100000; decide), i_new q⟩
theorem ok38 (hv : okS v = true) (hw : okS w = true) : ∀ z ∈ List.replicate 32 v ++ [v, w, v, w, v, w], okS z = true := fun z hz => by
  rcases List.mem_append.mp hz with h | h
  · rw [List.eq_of_mem_replicate h]
    exact hv
  · simp only [List.mem_cons, List.not_mem_nil, or_false] at h
    rcases h with rfl | rfl | rfl | rfl | rfl | rfl <;> assumption
end
end Ly
namespace Lw
open PySem PySem.Spec PyProof.Rows L2 Ly
local macro_rules | `(tactic| walk_at "rd") => `(tactic| first
  | ((with_reducible refine' i_var ?hv ?_); (case hv => exact rfl))
  | with_reducible refine i_c ?_
  | with_reducible refine i_op ?_
  | with_reducible refine i_cons ?_
  | with_reducible refine i_nil ?_
  | with_reducible refine i_cb ?_
  | with_reducible refine i_call ?_
  | with_reducible refine i_I0 ?_
  | with_reducible refine i_add_i ?_
  | with_reducible refine i_sub_i ?_
  | with_reducible refine i_md_i (by first | decide | assumption) ?_
  | ((with_reducible refine' i_md_i ?c ?_); rotate_left)
  | ((with_reducible refine' i_mul_i ?c ?_); rotate_left)
  | with_reducible refine i_fd_i (by decide) ?_
  | ((with_reducible refine' i_fd_i ?c ?_); rotate_left)
  | with_reducible refine i_int ?_
  | with_reducible refine i_abs ?_
  | with_reducible refine i_max2 ?_
  | with_reducible refine i_min2 ?_
  | with_reducible refine i_gcd ?_
  | with_reducible refine i_seq ?_
  | with_reducible refine i_if ?_
  | with_reducible refine i_asg ?_
  | with_reducible refine i_ret ?_
  | with_reducible refine i_drop ?_
  | with_reducible refine i_next ?_
  | with_reducible refine i_un ?_
  | with_reducible refine i_U ?_
  | ((with_reducible refine i_gname ?_); dsimp only [List.set])
  | with_reducible refine i_test ?_
  | with_reducible refine i_not ?_
  | with_reducible refine i_or ?_
  | with_reducible refine i_and ?_
  | with_reducible refine i_tb ?_
  | with_reducible refine i_andV ?_
  | with_reducible refine i_orV ?_
  | with_reducible refine i_notV ?_
  | with_reducible refine i_ifx ?_
  | with_reducible refine i_ext ?_
  | with_reducible refine i_exf ?_
  | with_reducible refine i_exn ?_
  | with_reducible refine i_itt ?_
  | with_reducible refine i_itf ?_
  | with_reducible refine i_gsub ?_
  | with_reducible refine i_nt ?_
  | with_reducible refine i_tup ?_
  | with_reducible refine i_lst ?_
  | with_reducible refine i_nf ?_
  | with_reducible refine i_isint ?_
  | ((with_reducible refine' i_top ?r ?_); (case r => walk_at "hp"))
  | ((with_reducible refine' i_bot ?r ?_); (case r => walk_at "hp"))
  | with_reducible refine i_fld ?_
  | with_reducible refine i_sfld ?_
  | with_reducible refine i_pp ?_
  | with_reducible refine i_meth ?_
  | with_reducible refine i_smeth ?_
  | with_reducible refine i_make ?_
  | with_reducible refine i_sl ?_
  | with_reducible refine i_noPart ?_
  | with_reducible refine i_part ?_
  | with_reducible refine i_smethK ?_
  | with_reducible refine i_sk1 ?_
  | with_reducible refine i_makeK ?_
  | with_reducible refine i_methK ?_
  | with_reducible refine i_mk11 ?_
  | ((with_reducible refine' i_rmk ?r ?h1 ?h2 ?_); (case r => walk_at "hp"); (case h1 => decide +kernel); (case h2 => decide +kernel))
  | with_reducible refine i_tpar ?_
  | ((with_reducible refine i_rpar ?_); dsimp only [List.set])
  | with_reducible refine i_eq_s rfl ?_
  | with_reducible refine i_ne_s rfl ?_
  | ((with_reducible refine' i_rtop ?r ?c ?n ?_); (case r => walk_at "hp"); (case c => assumption); (case n => assumption))
  | ((with_reducible refine' i_rbot ?r ?c ?n ?_); (case r => walk_at "hp"); (case c => assumption); (case n => assumption))
  | ((with_reducible refine' i_rpp ?r ?_); (case r => walk_at "hp"))
  | ((with_reducible refine' i_rmeth ?r ?h1 ?h2 ?_); (case r => walk_at "hp"); (case h1 => decide +kernel); (case h2 => decide +kernel))
  | ((with_reducible refine' i_ix_l ?hp ?ha ?_); (case hp => walk_at "hp"); (case ha => exact rfl))
  | ((with_reducible refine' i_len_l ?hp ?_); (case hp => walk_at "hp"))
  | ((with_reducible refine' i_ix_f0 ?hp ?_); (case hp => walk_at "hp"))
  | ((with_reducible refine' i_ix_f1 ?hp ?_); (case hp => walk_at "hp"))
  | ((with_reducible refine' i_ix_t ?hp ?ha ?_); (case hp => walk_at "hp"); (case ha => exact rfl)))
local macro_rules | `(tactic| walk_at "hp") => `(tactic| first
  | assumption
  | exact upd_same
  | exact SqL.of (by assumption)
  | (refine' Dr.tup (by assumption) ?hq; (case hq => walk_at "hp"))
  | (refine' FrL.same (by assumption) ?hq; (case hq => walk_at "hp"))
  | (refine' FracAt.same (by assumption) ?hq; (case hq => walk_at "hp"))
  | (refine' FracAt.nl (by assumption) ?hq; (case hq => walk_at "hp"))
  | (refine' RatAt.nl (by assumption) ?hq; (case hq => walk_at "hp"))
  | (refine' Num.nl (by assumption) ?hq; (case hq => walk_at "hp"))
  | (refine' FracAt.pk (by assumption) ?hq; (case hq => walk_at "hp"))
  | (refine' RatAt.pk (by assumption) ?hq; (case hq => walk_at "hp"))
  | (refine' Num.pk (by assumption) ?hq; (case hq => walk_at "hp"))
  | (refine' Dr.keep (by assumption) _ _ (by assumption) ?hq; (case hq => walk_at "hp"))
  | (refine' (show Same _ _ by assumption) _ _ ?hq; (case hq => walk_at "hp"))
  | (refine' RatAt.same (by assumption) ?hq; (case hq => walk_at "hp"))
  | (refine' Num.same (by assumption) ?hq; (case hq => walk_at "hp")))
local macro_rules | `(tactic| walk_at "sm") => `(tactic| first
  | assumption
  | exact Same.refl _
  | (refine' Same.kl (by assumption) (by assumption) ?aa; (case aa => walk_at "sm"))
  | (refine' Same.trans ?aa (by assumption); (case aa => walk_at "sm")))
local macro_rules | `(tactic| walk_at "dr") => `(tactic| first
  | assumption
  | (refine' Dr.same ?aa (by assumption); (case aa => walk_at "dr"))
  | (refine' Dr.trans ?aa (by assumption); (case aa => walk_at "dr")))

local macro_rules | `(tactic| walk_at "rd") => `(tactic| with_reducible refine i_xf ?_)
local macro_rules | `(tactic| walk_at "hp") => `(tactic| first | with_reducible assumption | (with_reducible refine' ExAt.same (by with_reducible assumption) ?hq; (case hq => walk_at "hp")))
variable {W : Wd} {a : Ad}
theorem k_law_named_right (T : Txt W.K W.mg a) : Cl W 5 "_law_named_right" spFields := by
  refine cl_of' T.d_law_named_right sc_law_named_right bd_law_named_right (fun vs H Q E h => by obtain ⟨v, w, h, _⟩ := h; rw [h]; rfl) fun f cdv A outer s H vs Q E hr h => ?_
  obtain ⟨v, w, rfl, ov, ow, q⟩ := h
  refine ⟨_, (pss_cons (ps_set (i := 2) sc_law_named_right.nd rfl (Or.inl rfl) (pe_lst (pa_cons (pe_mkxK (mk_InvalidNumber T) hr (by decide) (by rfl) (pk_cons (pv 0) pk_nil)) (pa_cons (pe_mkxK (mk_InvalidName T) hr (by decide) (by rfl) (pk_cons (pv 0) pk_nil)) (pa_cons (pe_mkxK (mk_InvalidServers T) hr (by decide) (by rfl) (pk_cons (pv 0) pk_nil)) (pa_cons (pe_mkxK (mk_InvalidTasks T) hr (by decide) (by rfl) (pk_cons (pv 0) pk_nil)) pa_nil)))))) (pss_cons (ps_set (i := 2) sc_law_named_right.nd rfl (Or.inl rfl) (pe_op op_addU (pv 2) (pe_lst (pa_cons (pe_mkxK (mk_InvalidWork T) hr (by decide) (by rfl) (pk_cons (pv 0) pk_nil)) (pa_cons (pe_mkxK (mk_InvalidYard T) hr (by decide) (by rfl) (pk_cons (pv 0) pk_nil)) (pa_cons (pe_mkxK (mk_InvalidAmounts T) hr (by decide) (by rfl) (pk_cons (pv 0) pk_nil)) pa_nil)))))) (pss_cons (ps_set (i := 2) sc_law_named_right.nd rfl (Or.inl rfl) (pe_op op_addU (pv 2) (pe_lst (pa_cons (pe_mkxK (mk_InvalidPlan T) hr (by decide) (by rfl) (pk_cons (pv 0) pk_nil)) (pa_cons (pe_mkxK (mk_InvalidGift T) hr (by decide) (by rfl) (pk_cons (pv 0) pk_nil)) (pa_cons (pe_mkxK (mk_InvalidShare T) hr (by decide) (by rfl) (pk_cons (pv 0) pk_nil)) pa_nil)))))) (pss_cons (ps_set (i := 2) sc_law_named_right.nd rfl (Or.inl rfl) (pe_op op_addU (pv 2) (pe_lst (pa_cons (pe_mkxK (mk_InvalidBounds T) hr (by decide) (by rfl) (pk_cons (pv 0) pk_nil)) (pa_cons (pe_mkxK (mk_InvalidAssignment T) hr (by decide) (by rfl) (pk_cons (pv 0) pk_nil)) (pa_cons (pe_mkxK (mk_InvalidClaim T) hr (by decide) (by rfl) (pk_cons (pv 0) pk_nil)) pa_nil)))))) (pss_cons (ps_set (i := 2) sc_law_named_right.nd rfl (Or.inl rfl) (pe_op op_addU (pv 2) (pe_lst (pa_cons (pe_mkxK (mk_InvalidCommand T) hr (by decide) (by rfl) (pk_cons (pv 0) pk_nil)) (pa_cons (pe_mkxK (mk_UnknownServer T) hr (by decide) (by rfl) (pk_cons (pv 0) pk_nil)) (pa_cons (pe_mkxK (mk_UnknownTask T) hr (by decide) (by rfl) (pk_cons (pv 0) pk_nil)) pa_nil)))))) (pss_cons (ps_set (i := 2) sc_law_named_right.nd rfl (Or.inl rfl) (pe_op op_addU (pv 2) (pe_lst (pa_cons (pe_mkxK (mk_UnknownPlace T) hr (by decide) (by rfl) (pk_cons (pv 0) pk_nil)) (pa_cons (pe_mkxK (mk_ServerTaken T) hr (by decide) (by rfl) (pk_cons (pv 0) pk_nil)) (pa_cons (pe_mkxK (mk_TaskTaken T) hr (by decide) (by rfl) (pk_cons (pv 0) pk_nil)) (pa_cons (pe_mkxK (mk_PlaceTaken T) hr (by decide) (by rfl) (pk_cons (pv 0) pk_nil)) pa_nil))))))) (pss_cons (ps_set (i := 2) sc_law_named_right.nd rfl (Or.inl rfl) (pe_op op_addU (pv 2) (pe_lst (pa_cons (pe_mkxK (mk_LastPlace T) hr (by decide) (by rfl) (pk_cons (pv 0) pk_nil)) (pa_cons (pe_mkxK (mk_OutOfSpan T) hr (by decide) (by rfl) (pk_cons (pv 0) pk_nil)) (pa_cons (pe_mkxK (mk_NotWhole T) hr (by decide) (by rfl) (pk_cons (pv 0) pk_nil)) pa_nil)))))) (pss_cons (ps_set (i := 3) sc_law_named_right.nd rfl (Or.inl rfl) (pe_op op_addU (pe_lc (own := [("_law_e", 7)]) (g := (gName 7)) (tt := tYes) rfl sc_law_named_right.nd (pi_listK (K := W.K) rfl (pv 2)) (blkOk_by (N := N_law_named_right) (sc := defScope s_law_named_right) (by decide +kernel)) (fun _ _ _ _ _ => (pg_name (i := 7) sc_law_named_right.nd rfl (Or.inl rfl))) (fun _ _ _ _ _ => pts_nil) (fun _ _ _ _ _ => (pe_xfK (K := W.K) rfl (pv 7) rfl))) (pe_lst (pa_cons (pe_xfK (K := W.K) rfl (pe_mkxK (mk_InvalidMoves T) hr (by decide) (by rfl) (pk_cons (pv 0) pk_nil)) rfl) (pa_cons (pe_xfK (K := W.K) rfl (pe_mkxK (mk_InvalidLines T) hr (by decide) (by rfl) (pk_cons (pv 0) pk_nil)) rfl) pa_nil))))) (pss_cons (ps_set (i := 3) sc_law_named_right.nd rfl (Or.inl rfl) (pe_op op_addU (pv 3) (pe_lst (pa_cons (pe_xfK (K := W.K) rfl (pe_mkxK (mk_Impossible T) hr (by decide) (by rfl) (pk_cons (pv 0) pk_nil)) rfl) (pa_cons (pe_xfK (K := W.K) rfl (pe_mkxK (mk_CommandFailed T) hr (by decide) (by rfl) (pk_cons (pv 0) pk_nil)) rfl) pa_nil))))) (pss_cons (ps_set (i := 3) sc_law_named_right.nd rfl (Or.inl rfl) (pe_op op_addU (pv 3) (pe_lst (pa_cons (pe_xfK (K := W.K) rfl (pe_mkxK (mk_InvalidSpeed T) hr (by decide) (by rfl) (pk_cons (pv 0) pk_nil)) rfl) (pa_cons (pe_xfK (K := W.K) rfl (pe_mkxK (mk_InvalidTask T) hr (by decide) (by rfl) (pk_cons (pv 0) pk_nil)) rfl) (pa_cons (pe_xfK (K := W.K) rfl (pe_mkxK (mk_WrongSum T) hr (by decide) (by rfl) (pk_cons (pv 0) pk_nil)) rfl) pa_nil)))))) (pss_cons (ps_set (i := 3) sc_law_named_right.nd rfl (Or.inl rfl) (pe_op op_addU (pv 3) (pe_lst (pa_cons (pe_xfK (K := W.K) rfl (pe_mkxK (mk_InvalidText T) hr (by decide) (by rfl) (pk_cons (pv 0) pk_nil)) rfl) (pa_cons (pe_xfK (K := W.K) rfl (pe_mkxK (mk_Overfull T) hr (by decide) (by rfl) (pk_cons (pv 0) pk_nil)) rfl) pa_nil))))) (pss_cons (ps_par (i := 5) (j := 6) (by rfl) sc_law_named_right.nd rfl rfl (by decide) rfl rfl (pa_cons (pe_mkxK (mk_OtherYard T) hr (by decide) (by rfl) (pk_cons (pv 1) (pk_cons (pv 0) pk_nil))) (pa_cons (pe_mkxK (mk_OtherServers T) hr (by decide) (by rfl) (pk_cons (pv 1) (pk_cons (pv 0) pk_nil))) pa_nil)) (by rfl)) (pss_cons (ps_set (i := 4) sc_law_named_right.nd rfl (Or.inl rfl) (pe_mkxK (mk_TooMany T) hr (by decide) (by rfl) (pk_cons (pv 1) (pk_cons (pv 0) pk_nil)))) (pss_cons (ps_set (i := 3) sc_law_named_right.nd rfl (Or.inl rfl) (pe_op op_addU (pv 3) (pe_lst (pa_cons (pe_xfK (K := W.K) rfl (pv 5) rfl) (pa_cons (pe_xfK (K := W.K) rfl (pv 5) rfl) (pa_cons (pe_xfK (K := W.K) rfl (pv 6) rfl) (pa_cons (pe_xfK (K := W.K) rfl (pv 6) rfl) (pa_cons (pe_xfK (K := W.K) rfl (pv 4) rfl) (pa_cons (pe_xfK (K := W.K) rfl (pv 4) rfl) pa_nil))))))))) (pss_one (ps_ret (pe_cmpR (r := rEqV W.K) (op_eqV hr.units) (pv 3) (pe_op op_addU (pe_op op_mulU (pe_lst (pa_cons (pv 0) pa_nil)) pe_int) (pe_op op_mulU (pe_lst (pa_cons (pv 0) (pa_cons (pv 1) pa_nil))) pe_int)) (nomark _)))))))))))))))))), ?_⟩
  refine i_start (σ' := [some v, some w, none, none, none, none, none, none]) rfl ?_
  repeat walk_at "rd"
  refine i_mx1K fun x1 H1 n1 s1 e1 => ?_
  repeat walk_at "rd"
  refine i_mx1K fun x2 H2 n2 s2 e2 => ?_
  repeat walk_at "rd"
  refine i_mx1K fun x3 H3 n3 s3 e3 => ?_
  repeat walk_at "rd"
  refine i_mx1K fun x4 H4 n4 s4 e4 => ?_
  repeat walk_at "rd"
  refine i_mkL (by show 4 ≤ 1000; decide) fun l5 H5 n5 h5 s5 => ?_
  repeat walk_at "rd"
  refine i_mx1K fun x6 H6 n6 s6 e6 => ?_
  repeat walk_at "rd"
  refine i_mx1K fun x7 H7 n7 s7 e7 => ?_
  repeat walk_at "rd"
  refine i_mx1K fun x8 H8 n8 s8 e8 => ?_
  repeat walk_at "rd"
  refine i_mkL (by show 3 ≤ 1000; decide) fun l9 H9 n9 h9 s9 => ?_
  repeat walk_at "rd"
  refine i_cat (by walk_at "hp") h9 (by show 7 ≤ 1000; decide) fun l10 H10 n10 h10 s10 => ?_
  repeat walk_at "rd"
  refine i_mx1K fun x11 H11 n11 s11 e11 => ?_
  repeat walk_at "rd"
  refine i_mx1K fun x12 H12 n12 s12 e12 => ?_
  repeat walk_at "rd"
  refine i_mx1K fun x13 H13 n13 s13 e13 => ?_
  repeat walk_at "rd"
  refine i_mkL (by show 3 ≤ 1000; decide) fun l14 H14 n14 h14 s14 => ?_
  repeat walk_at "rd"
  refine i_cat (by walk_at "hp") h14 (by show 10 ≤ 1000; decide) fun l15 H15 n15 h15 s15 => ?_
  repeat walk_at "rd"
  refine i_mx1K fun x16 H16 n16 s16 e16 => ?_
  repeat walk_at "rd"
  refine i_mx1K fun x17 H17 n17 s17 e17 => ?_
  repeat walk_at "rd"
  refine i_mx1K fun x18 H18 n18 s18 e18 => ?_
  repeat walk_at "rd"
  refine i_mkL (by show 3 ≤ 1000; decide) fun l19 H19 n19 h19 s19 => ?_
  repeat walk_at "rd"
  refine i_cat (by walk_at "hp") h19 (by show 13 ≤ 1000; decide) fun l20 H20 n20 h20 s20 => ?_
  repeat walk_at "rd"
  refine i_mx1K fun x21 H21 n21 s21 e21 => ?_
  repeat walk_at "rd"
  refine i_mx1K fun x22 H22 n22 s22 e22 => ?_
  repeat walk_at "rd"
  refine i_mx1K fun x23 H23 n23 s23 e23 => ?_
  repeat walk_at "rd"
  refine i_mkL (by show 3 ≤ 1000; decide) fun l24 H24 n24 h24 s24 => ?_
  repeat walk_at "rd"
  refine i_cat (by walk_at "hp") h24 (by show 16 ≤ 1000; decide) fun l25 H25 n25 h25 s25 => ?_
  repeat walk_at "rd"
  refine i_mx1K fun x26 H26 n26 s26 e26 => ?_
  repeat walk_at "rd"
  refine i_mx1K fun x27 H27 n27 s27 e27 => ?_
  repeat walk_at "rd"
  refine i_mx1K fun x28 H28 n28 s28 e28 => ?_
  repeat walk_at "rd"
  refine i_mx1K fun x29 H29 n29 s29 e29 => ?_
  repeat walk_at "rd"
  refine i_mkL (by show 4 ≤ 1000; decide) fun l30 H30 n30 h30 s30 => ?_
  repeat walk_at "rd"
  refine i_cat (by walk_at "hp") h30 (by show 20 ≤ 1000; decide) fun l31 H31 n31 h31 s31 => ?_
  repeat walk_at "rd"
  refine i_mx1K fun x32 H32 n32 s32 e32 => ?_
  repeat walk_at "rd"
  refine i_mx1K fun x33 H33 n33 s33 e33 => ?_
  repeat walk_at "rd"
  refine i_mx1K fun x34 H34 n34 s34 e34 => ?_
  repeat walk_at "rd"
  refine i_mkL (by show 3 ≤ 1000; decide) fun l35 H35 n35 h35 s35 => ?_
  repeat walk_at "rd"
  refine i_cat (by walk_at "hp") h35 (by show 23 ≤ 1000; decide) fun l36 H36 n36 h36 s36 => ?_
  repeat walk_at "rd"
  refine i_lcl ?_
  repeat walk_at "rd"
  refine i_rlcC (v := v) (xs := [V.ref x1, V.ref x2, V.ref x3, V.ref x4, V.ref x6, V.ref x7, V.ref x8, V.ref x11, V.ref x12, V.ref x13, V.ref x16, V.ref x17, V.ref x18, V.ref x21, V.ref x22, V.ref x23, V.ref x26, V.ref x27, V.ref x28, V.ref x29, V.ref x32, V.ref x33, V.ref x34]) (by walk_at "hp") (by show 23 ≤ 1000; decide) (fun x => rfl) ?_ ?_
  · intro z H' Q' hz s' q'
    simp only [List.mem_cons, List.not_mem_nil, or_false] at hz
    rcases hz with rfl | rfl | rfl | rfl | rfl | rfl | rfl | rfl | rfl | rfl | rfl | rfl | rfl | rfl | rfl | rfl | rfl | rfl | rfl | rfl | rfl | rfl | rfl
    · dsimp only [List.map, wipe, List.set]
      repeat walk_at "rd"
      exact i_rxf (by walk_at "hp") T.e_InvalidNumber.xk T.n_InvalidNumber_value (look1 _) q'
    · dsimp only [List.map, wipe, List.set]
      repeat walk_at "rd"
      exact i_rxf (by walk_at "hp") T.e_InvalidName.xk T.n_InvalidName_value (look1 _) q'
    · dsimp only [List.map, wipe, List.set]
      repeat walk_at "rd"
      exact i_rxf (by walk_at "hp") T.e_InvalidServers.xk T.n_InvalidServers_value (look1 _) q'
    · dsimp only [List.map, wipe, List.set]
      repeat walk_at "rd"
      exact i_rxf (by walk_at "hp") T.e_InvalidTasks.xk T.n_InvalidTasks_value (look1 _) q'
    · dsimp only [List.map, wipe, List.set]
      repeat walk_at "rd"
      exact i_rxf (by walk_at "hp") T.e_InvalidWork.xk T.n_InvalidWork_value (look1 _) q'
    · dsimp only [List.map, wipe, List.set]
      repeat walk_at "rd"
      exact i_rxf (by walk_at "hp") T.e_InvalidYard.xk T.n_InvalidYard_value (look1 _) q'
    · dsimp only [List.map, wipe, List.set]
      repeat walk_at "rd"
      exact i_rxf (by walk_at "hp") T.e_InvalidAmounts.xk T.n_InvalidAmounts_value (look1 _) q'
    · dsimp only [List.map, wipe, List.set]
      repeat walk_at "rd"
      exact i_rxf (by walk_at "hp") T.e_InvalidPlan.xk T.n_InvalidPlan_value (look1 _) q'
    · dsimp only [List.map, wipe, List.set]
      repeat walk_at "rd"
      exact i_rxf (by walk_at "hp") T.e_InvalidGift.xk T.n_InvalidGift_value (look1 _) q'
    · dsimp only [List.map, wipe, List.set]
      repeat walk_at "rd"
      exact i_rxf (by walk_at "hp") T.e_InvalidShare.xk T.n_InvalidShare_value (look1 _) q'
    · dsimp only [List.map, wipe, List.set]
      repeat walk_at "rd"
      exact i_rxf (by walk_at "hp") T.e_InvalidBounds.xk T.n_InvalidBounds_value (look1 _) q'
    · dsimp only [List.map, wipe, List.set]
      repeat walk_at "rd"
      exact i_rxf (by walk_at "hp") T.e_InvalidAssignment.xk T.n_InvalidAssignment_value (look1 _) q'
    · dsimp only [List.map, wipe, List.set]
      repeat walk_at "rd"
      exact i_rxf (by walk_at "hp") T.e_InvalidClaim.xk T.n_InvalidClaim_value (look1 _) q'
    · dsimp only [List.map, wipe, List.set]
      repeat walk_at "rd"
      exact i_rxf (by walk_at "hp") T.e_InvalidCommand.xk T.n_InvalidCommand_value (look1 _) q'
    · dsimp only [List.map, wipe, List.set]
      repeat walk_at "rd"
      exact i_rxf (by walk_at "hp") T.e_UnknownServer.xk T.n_UnknownServer_value (look1 _) q'
    · dsimp only [List.map, wipe, List.set]
      repeat walk_at "rd"
      exact i_rxf (by walk_at "hp") T.e_UnknownTask.xk T.n_UnknownTask_value (look1 _) q'
    · dsimp only [List.map, wipe, List.set]
      repeat walk_at "rd"
      exact i_rxf (by walk_at "hp") T.e_UnknownPlace.xk T.n_UnknownPlace_value (look1 _) q'
    · dsimp only [List.map, wipe, List.set]
      repeat walk_at "rd"
      exact i_rxf (by walk_at "hp") T.e_ServerTaken.xk T.n_ServerTaken_value (look1 _) q'
    · dsimp only [List.map, wipe, List.set]
      repeat walk_at "rd"
      exact i_rxf (by walk_at "hp") T.e_TaskTaken.xk T.n_TaskTaken_value (look1 _) q'
    · dsimp only [List.map, wipe, List.set]
      repeat walk_at "rd"
      exact i_rxf (by walk_at "hp") T.e_PlaceTaken.xk T.n_PlaceTaken_value (look1 _) q'
    · dsimp only [List.map, wipe, List.set]
      repeat walk_at "rd"
      exact i_rxf (by walk_at "hp") T.e_LastPlace.xk T.n_LastPlace_value (look1 _) q'
    · dsimp only [List.map, wipe, List.set]
      repeat walk_at "rd"
      exact i_rxf (by walk_at "hp") T.e_OutOfSpan.xk T.n_OutOfSpan_value (look1 _) q'
    · dsimp only [List.map, wipe, List.set]
      repeat walk_at "rd"
      exact i_rxf (by walk_at "hp") T.e_NotWhole.xk T.n_NotWhole_value (look1 _) q'
  intro l37 H37 n37 s37 h37
  repeat walk_at "rd"
  refine i_mx1K fun x38 H38 n38 s38 e38 => ?_
  repeat walk_at "rd"
  refine i_rxf (by walk_at "hp") T.e_InvalidMoves.xk T.n_InvalidMoves_position (look1 _) ?_
  repeat walk_at "rd"
  refine i_mx1K fun x39 H39 n39 s39 e39 => ?_
  repeat walk_at "rd"
  refine i_rxf (by walk_at "hp") T.e_InvalidLines.xk T.n_InvalidLines_position (look1 _) ?_
  repeat walk_at "rd"
  refine i_mkL (by show 2 ≤ 1000; decide) fun l40 H40 n40 h40 s40 => ?_
  repeat walk_at "rd"
  refine i_cat (by walk_at "hp") h40 (by show 25 ≤ 1000; decide) fun l41 H41 n41 h41 s41 => ?_
  repeat walk_at "rd"
  refine i_mx1K fun x42 H42 n42 s42 e42 => ?_
  repeat walk_at "rd"
  refine i_rxf (by walk_at "hp") T.e_Impossible.xk T.n_Impossible_position (look1 _) ?_
  repeat walk_at "rd"
  refine i_mx1K fun x43 H43 n43 s43 e43 => ?_
  repeat walk_at "rd"
  refine i_rxf (by walk_at "hp") T.e_CommandFailed.xk T.n_CommandFailed_position (look1 _) ?_
  repeat walk_at "rd"
  refine i_mkL (by show 2 ≤ 1000; decide) fun l44 H44 n44 h44 s44 => ?_
  repeat walk_at "rd"
  refine i_cat (by walk_at "hp") h44 (by show 27 ≤ 1000; decide) fun l45 H45 n45 h45 s45 => ?_
  repeat walk_at "rd"
  refine i_mx1K fun x46 H46 n46 s46 e46 => ?_
  repeat walk_at "rd"
  refine i_rxf (by walk_at "hp") T.e_InvalidSpeed.xk T.n_InvalidSpeed_server (look1 _) ?_
  repeat walk_at "rd"
  refine i_mx1K fun x47 H47 n47 s47 e47 => ?_
  repeat walk_at "rd"
  refine i_rxf (by walk_at "hp") T.e_InvalidTask.xk T.n_InvalidTask_name (look1 _) ?_
  repeat walk_at "rd"
  refine i_mx1K fun x48 H48 n48 s48 e48 => ?_
  repeat walk_at "rd"
  refine i_rxf (by walk_at "hp") T.e_WrongSum.xk T.n_WrongSum_name (look1 _) ?_
  repeat walk_at "rd"
  refine i_mkL (by show 3 ≤ 1000; decide) fun l49 H49 n49 h49 s49 => ?_
  repeat walk_at "rd"
  refine i_cat (by walk_at "hp") h49 (by show 30 ≤ 1000; decide) fun l50 H50 n50 h50 s50 => ?_
  repeat walk_at "rd"
  refine i_mx1K fun x51 H51 n51 s51 e51 => ?_
  repeat walk_at "rd"
  refine i_rxf (by walk_at "hp") T.e_InvalidText.xk T.n_InvalidText_line (look1 _) ?_
  repeat walk_at "rd"
  refine i_mx1K fun x52 H52 n52 s52 e52 => ?_
  repeat walk_at "rd"
  refine i_rxf (by walk_at "hp") T.e_Overfull.xk T.n_Overfull_bar (look1 _) ?_
  repeat walk_at "rd"
  refine i_mkL (by show 2 ≤ 1000; decide) fun l53 H53 n53 h53 s53 => ?_
  repeat walk_at "rd"
  refine i_cat (by walk_at "hp") h53 (by show 32 ≤ 1000; decide) fun l54 H54 n54 h54 s54 => ?_
  repeat walk_at "rd"
  refine i_mx2K fun x55 H55 n55 s55 e55 => ?_
  repeat walk_at "rd"
  refine i_mx2K fun x56 H56 n56 s56 e56 => ?_
  repeat walk_at "rd"
  refine i_mx2K fun x57 H57 n57 s57 e57 => ?_
  repeat walk_at "rd"
  refine i_rxf (by walk_at "hp") T.e_OtherYard.xk T.n_OtherYard_one (look2 _ _ (by decide +kernel)) ?_
  repeat walk_at "rd"
  refine i_rxf (by walk_at "hp") T.e_OtherYard.xk T.n_OtherYard_other (look1a _) ?_
  repeat walk_at "rd"
  refine i_rxf (by walk_at "hp") T.e_OtherServers.xk T.n_OtherServers_one (look2 _ _ (by decide +kernel)) ?_
  repeat walk_at "rd"
  refine i_rxf (by walk_at "hp") T.e_OtherServers.xk T.n_OtherServers_other (look1a _) ?_
  repeat walk_at "rd"
  refine i_rxf (by walk_at "hp") T.e_TooMany.xk T.n_TooMany_what (look2 _ _ (by decide +kernel)) ?_
  repeat walk_at "rd"
  refine i_rxf (by walk_at "hp") T.e_TooMany.xk T.n_TooMany_limit (look1a _) ?_
  repeat walk_at "rd"
  refine i_mkL (by show 6 ≤ 1000; decide) fun l58 H58 n58 h58 s58 => ?_
  repeat walk_at "rd"
  refine i_cat (by walk_at "hp") h58 (by show 38 ≤ 1000; decide) fun l59 H59 n59 h59 s59 => ?_
  repeat walk_at "rd"
  refine i_mkL1 fun l60 H60 n60 h60 s60 => ?_
  repeat walk_at "rd"
  refine i_rep1 (n := 32) h60 (by decide) fun l61 H61 n61 h61 s61 => ?_
  repeat walk_at "rd"
  refine i_mkL2 fun l62 H62 n62 h62 s62 => ?_
  repeat walk_at "rd"
  refine i_rep23 h62 fun l63 H63 n63 h63 s63 => ?_
  repeat walk_at "rd"
  refine i_cat (by walk_at "hp") h63 (by show 38 ≤ 1000; decide) fun l64 H64 n64 h64 s64 => ?_
  refine i_eqS (by walk_at "hp") h64 (ok38 ov ow) ?_
  exact q _ (by walk_at "sm")
end Lw

namespace Lw
open PySem PySem.Spec PyProof.Rows L2 Ly
local macro_rules | `(tactic| walk_at "rd") => `(tactic| first
  | ((with_reducible refine' i_var ?hv ?_); (case hv => exact rfl))
  | with_reducible refine i_c ?_
  | with_reducible refine i_op ?_
  | with_reducible refine i_cons ?_
  | with_reducible refine i_nil ?_
  | with_reducible refine i_cb ?_
  | with_reducible refine i_call ?_
  | with_reducible refine i_I0 ?_
  | with_reducible refine i_add_i ?_
  | with_reducible refine i_sub_i ?_
  | with_reducible refine i_md_i (by first | decide | assumption) ?_
  | ((with_reducible refine' i_md_i ?c ?_); rotate_left)
  | ((with_reducible refine' i_mul_i ?c ?_); rotate_left)
  | with_reducible refine i_fd_i (by decide) ?_
  | ((with_reducible refine' i_fd_i ?c ?_); rotate_left)
  | with_reducible refine i_int ?_
  | with_reducible refine i_abs ?_
  | with_reducible refine i_max2 ?_
  | with_reducible refine i_min2 ?_
  | with_reducible refine i_gcd ?_
  | with_reducible refine i_seq ?_
  | with_reducible refine i_if ?_
  | with_reducible refine i_asg ?_
  | with_reducible refine i_ret ?_
  | with_reducible refine i_drop ?_
  | with_reducible refine i_next ?_
  | with_reducible refine i_un ?_
  | with_reducible refine i_U ?_
  | ((with_reducible refine i_gname ?_); dsimp only [List.set])
  | with_reducible refine i_test ?_
  | with_reducible refine i_not ?_
  | with_reducible refine i_or ?_
  | with_reducible refine i_and ?_
  | with_reducible refine i_tb ?_
  | with_reducible refine i_andV ?_
  | with_reducible refine i_orV ?_
  | with_reducible refine i_notV ?_
  | with_reducible refine i_ifx ?_
  | with_reducible refine i_ext ?_
  | with_reducible refine i_exf ?_
  | with_reducible refine i_exn ?_
  | with_reducible refine i_itt ?_
  | with_reducible refine i_itf ?_
  | with_reducible refine i_gsub ?_
  | with_reducible refine i_nt ?_
  | with_reducible refine i_tup ?_
  | with_reducible refine i_lst ?_
  | with_reducible refine i_nf ?_
  | with_reducible refine i_isint ?_
  | ((with_reducible refine' i_top ?r ?_); (case r => walk_at "hp"))
  | ((with_reducible refine' i_bot ?r ?_); (case r => walk_at "hp"))
  | with_reducible refine i_fld ?_
  | with_reducible refine i_sfld ?_
  | with_reducible refine i_pp ?_
  | with_reducible refine i_meth ?_
  | with_reducible refine i_smeth ?_
  | with_reducible refine i_make ?_
  | with_reducible refine i_sl ?_
  | with_reducible refine i_noPart ?_
  | with_reducible refine i_part ?_
  | with_reducible refine i_smethK ?_
  | with_reducible refine i_sk1 ?_
  | with_reducible refine i_makeK ?_
  | with_reducible refine i_methK ?_
  | with_reducible refine i_mk11 ?_
  | ((with_reducible refine' i_rmk ?r ?h1 ?h2 ?_); (case r => walk_at "hp"); (case h1 => decide +kernel); (case h2 => decide +kernel))
  | with_reducible refine i_tpar ?_
  | ((with_reducible refine i_rpar ?_); dsimp only [List.set])
  | with_reducible refine i_eq_s rfl ?_
  | with_reducible refine i_ne_s rfl ?_
  | ((with_reducible refine' i_rtop ?r ?c ?n ?_); (case r => walk_at "hp"); (case c => assumption); (case n => assumption))
  | ((with_reducible refine' i_rbot ?r ?c ?n ?_); (case r => walk_at "hp"); (case c => assumption); (case n => assumption))
  | ((with_reducible refine' i_rpp ?r ?_); (case r => walk_at "hp"))
  | ((with_reducible refine' i_rmeth ?r ?h1 ?h2 ?_); (case r => walk_at "hp"); (case h1 => decide +kernel); (case h2 => decide +kernel))
  | ((with_reducible refine' i_ix_l ?hp ?ha ?_); (case hp => walk_at "hp"); (case ha => exact rfl))
  | ((with_reducible refine' i_len_l ?hp ?_); (case hp => walk_at "hp"))
  | ((with_reducible refine' i_ix_f0 ?hp ?_); (case hp => walk_at "hp"))
  | ((with_reducible refine' i_ix_f1 ?hp ?_); (case hp => walk_at "hp"))
  | ((with_reducible refine' i_ix_t ?hp ?ha ?_); (case hp => walk_at "hp"); (case ha => exact rfl)))
local macro_rules | `(tactic| walk_at "hp") => `(tactic| first
  | assumption
  | exact upd_same
  | exact SqL.of (by assumption)
  | (refine' Dr.tup (by assumption) ?hq; (case hq => walk_at "hp"))
  | (refine' FrL.same (by assumption) ?hq; (case hq => walk_at "hp"))
  | (refine' FracAt.same (by assumption) ?hq; (case hq => walk_at "hp"))
  | (refine' FracAt.nl (by assumption) ?hq; (case hq => walk_at "hp"))
  | (refine' RatAt.nl (by assumption) ?hq; (case hq => walk_at "hp"))
  | (refine' Num.nl (by assumption) ?hq; (case hq => walk_at "hp"))
  | (refine' FracAt.pk (by assumption) ?hq; (case hq => walk_at "hp"))
  | (refine' RatAt.pk (by assumption) ?hq; (case hq => walk_at "hp"))
  | (refine' Num.pk (by assumption) ?hq; (case hq => walk_at "hp"))
  | (refine' Dr.keep (by assumption) _ _ (by assumption) ?hq; (case hq => walk_at "hp"))
  | (refine' (show Same _ _ by assumption) _ _ ?hq; (case hq => walk_at "hp"))
  | (refine' RatAt.same (by assumption) ?hq; (case hq => walk_at "hp"))
  | (refine' Num.same (by assumption) ?hq; (case hq => walk_at "hp")))
local macro_rules | `(tactic| walk_at "sm") => `(tactic| first
  | assumption
  | exact Same.refl _
  | (refine' Same.kl (by assumption) (by assumption) ?aa; (case aa => walk_at "sm"))
  | (refine' Same.trans ?aa (by assumption); (case aa => walk_at "sm")))
local macro_rules | `(tactic| walk_at "dr") => `(tactic| first
  | assumption
  | (refine' Dr.same ?aa (by assumption); (case aa => walk_at "dr"))
  | (refine' Dr.trans ?aa (by assumption); (case aa => walk_at "dr")))

variable {W : Wd} {a : Ad}
def spRight : Sp := fun vs H Q _ => ∃ p : Addr, vs = [.ref p] ∧ Pot H p ∧ ∀ H', Dr p H H' → Q (.bl true) H'
theorem k_law_right (T : Txt W.K W.mg a) : ClG W 8 "_law_right" spRight := by
  refine clg_of T.d_law_right sc_law_right bd_law_right (fun vs H Q E ⟨v, h, _⟩ => by rw [h]; rfl) fun f cdv A outer s H vs Q E hr hgd h => ?_
  obtain ⟨p, rfl, hp, q⟩ := h
  refine ⟨_, (pss_cons (ps_for PassesOwn.never rfl (pi_range1 rfl T.b_range (pa_cons pe_int pa_nil)) (pg_name (i := 1) sc_law_right.nd rfl (Or.inl rfl)) (pss_cons (ps_asg (pe_cl (k_law_thing T) hr (by decide) rfl (pa_cons (pv 0) pa_nil)) (pg_tup rfl (pgs_cons (pg_name (i := 3) sc_law_right.nd rfl (Or.inl rfl)) (pgs_cons (pg_name (i := 4) sc_law_right.nd rfl (Or.inl rfl)) pgs_nil)))) (pss_cons (ps_set (i := 2) sc_law_right.nd rfl (Or.inl rfl) (pe_ix (r := rIx W.K) ix_U (pe_cl (k_law_thing T) hr (by decide) rfl (pa_cons (pv 0) pa_nil)) pe_int (fun _ _ => rfl))) (pss_cons (ps_if (PW.pt (pw_or (pt_not (pt_val (pe_clG (k_law_kinds_right T) hr hgd (by decide) rfl (pa_cons (pv 3) (pa_cons (pv 4) pa_nil))))) (pw_or1 (pt_not (pt_val (pe_cl (k_law_classes_right T) hr (by decide) rfl (pa_cons (pv 3) (pa_cons (pv 2) pa_nil)))))))) (pss_one (ps_ret pe_bl)) pss_nil) (pss_one (ps_if (PW.pt (pw_or (pt_not (pt_val (pe_cl (k_law_fields_right T) hr (by decide) rfl (pa_cons (pv 3) (pa_cons (pv 2) pa_nil))))) (pw_or1 (pt_not (pt_val (pe_cl (k_law_named_right T) hr (by decide) rfl (pa_cons (pv 3) (pa_cons (pv 2) pa_nil)))))))) (pss_one (ps_ret pe_bl)) pss_nil)))))) (pss_one (ps_ret pe_bl))), ?_⟩
  refine i_start (σ' := [some (V.ref p), none, none, none, none]) rfl ?_
  repeat walk_at "rd"
  refine i_for ?_
  repeat walk_at "rd"
  refine i_rfor (by decide) (by decide) (fun i σ' H' => ∃ w1 w2 w3 w4, σ' = [some (V.ref p), w1, w2, w3, w4] ∧ Dr p H H') ⟨_, _, _, _, rfl, Dr.refl hp⟩ ?_ ?_
  · rintro i σ' H1 hi ⟨w1, w2, w3, w4, rfl, k1⟩
    dsimp only [List.set]
    repeat walk_at "rd"
    refine ⟨p, rfl, k1.pot', fun r2 H2 v n2 k2 h2 t2 vp => ?_⟩
    refine ⟨r2, _, rfl, SqT.of h2, rfl, ?_⟩
    refine ⟨_, _, rfl, ?_⟩
    repeat walk_at "rd"
    refine ⟨_, _, rfl, ?_⟩
    repeat walk_at "rd"
    refine ⟨rfl, ?_⟩
    repeat walk_at "rd"
    refine ⟨p, rfl, k2.pot', fun r3 H3 w n3 k3 h3 t3 wp => ?_⟩
    have tv := t2.dr k3 vp
    have k13 := (k1.trans k2).trans k3
    clear k1 k2 k3 t2 h2
    repeat walk_at "rd"
    refine ⟨v, rfl, tv, fun H4 s4 => ?_⟩
    repeat walk_at "rd"
    refine ⟨v, w, rfl, fun H5 s5 => ?_⟩
    repeat walk_at "rd"
    refine ⟨v, w, rfl, tv.okS, t3.okS, fun H6 s6 => ?_⟩
    repeat walk_at "rd"
    refine ⟨v, w, rfl, tv.okS, t3.okS, fun H7 s7 => ?_⟩
    repeat walk_at "rd"
    exact ⟨_, _, _, _, rfl, (((k13.same s4).same s5).same s6).same s7⟩
  · rintro σ' H1 ⟨w1, w2, w3, w4, rfl, k1⟩
    repeat walk_at "rd"
    exact q H1 k1
def spLaw (K : PySem.W.Frag) : Sp := fun vs H Q _ => ∃ (a : Addr) (ns : List Int), vs = [.ref a] ∧ SqL K H a (ns.map V.int) ∧ ns.length ≤ 63 ∧ ∀ H', Q (.bl true) H'
theorem bo_law (T : Txt W.K W.mg a) : BodyG W 16 N_law "law" s_law (spLaw W.K) := by
  intro f cdv A outer s0 H vs Q E hr hgd h
  obtain ⟨l, ns, rfl, hs, hl, q⟩ := h
  refine ⟨_, (pss_one (ps_ret (pe_callB (r := rAll W.K) (cr_all rfl) (by rfl) T.b_all (by decide +kernel) (pa_cons (pe_lc (own := [("_law_k", 1)]) (g := (gName 1)) (tt := tYes) rfl sc_law.nd (pi_range1 rfl T.b_range (pa_cons (pe_callB (call_max2U rfl) (by rfl) T.b_max (by decide +kernel) (pa_cons pe_int (pa_cons (pe_callB (call_min2U rfl) (by rfl) T.b_min (by decide +kernel) (pa_cons pe_int (pa_cons (pe_callB (r := Ly.rLen W.K) call_lenU (by rfl) T.b_len (by decide +kernel) (pa_cons (pv 0) pa_nil)) pa_nil))) pa_nil))) pa_nil)) (blkOk_by (N := N_law) (sc := defScope s_law) (by decide +kernel)) (fun _ _ _ _ _ => (pg_name (i := 1) sc_law.nd rfl (Or.inl rfl))) (fun _ _ _ _ _ => pts_nil) (fun _ _ _ _ _ => (pe_clG (k_law_right T) hr hgd (by decide) rfl (pa_cons (pe_cl (k_law_pot T) hr (by decide) rfl (pa_cons (pv 0) (pa_cons (pv 1) pa_nil))) pa_nil)))) pa_nil)))), ?_⟩
  refine i_start (σ' := [some (V.ref l), none]) rfl ?_
  refine i_ret ?_
  refine i_cb ?_
  refine i_cons ?_
  have hlen : (ns.map V.int).length = ns.length := List.length_map ..
  refine i_lcR (m := if (if ((ns.map V.int).length : Int) < 4 then ((ns.map V.int).length : Int) else 4) > 1 then (if ((ns.map V.int).length : Int) < 4 then ((ns.map V.int).length : Int) else 4) else 1) (fun i H' v => v = V.bl true) (fun Q' hQ => ?_) ?_ ?_ (fun _ _ _ _ _ g => g) (fun x => rfl) ?_ ?_
  · repeat walk_at "rd"
    refine i_len_L hs ?_
    repeat walk_at "rd"
    exact hQ
  · split <;> omega
  · split
    · split <;> omega
    · decide
  · intro i H' Q' hi s q'
    have hi2 : (i : Int) < 100 := by
      have : (i : Int) < 5 := by
        refine Int.lt_of_lt_of_le hi ?_
        split
        · split <;> omega
        · decide
      omega
    dsimp only [List.map, wipe, List.set]
    repeat walk_at "rd"
    refine ⟨l, ns, (i : Int), rfl, s.seq hs, by omega, hi2, fun p H1 np s1 hp => ?_⟩
    repeat walk_at "rd"
    refine ⟨p, rfl, hp, fun H2 k2 => q' _ H2 (fun c o e => k2.keep c o (ne_of_none e np) (s1 _ _ e)) rfl⟩
  · intro r H' ys nr s hr' hy g
    repeat walk_at "rd"
    have ey : ys = (List.replicate ys.length true).map V.bl := by
      apply List.ext_getElem?
      intro i
      rw [List.getElem?_map]
      rcases Nat.lt_or_ge i ys.length with h | h
      · rw [List.getElem?_eq_getElem h, g i ys[i] (List.getElem?_eq_getElem h)]
        simp [h]
      · simp [h]
    refine ⟨r, List.replicate ys.length true, rfl, ?_, ?_⟩
    · rw [← ey]
      exact SqL.of hr'
    · rw [show (List.replicate ys.length true).all id = true by simp]
      exact q H'
theorem fin {l : PySem.W.OpenLaw} {w : World} {K : PySem.W.Frag} {h : Heap} {mg : Str → Option Value} {fa x1 x2 x3 x4 x5 x6 x7 x8 x9 x10 x11 x12 x13 x14 x15 x16 x17 x18 x19 x20 x21 x22 x23 x24 x25 x26 x27 x28 x29 x30 x31 x32 x33 x34 x35 x36 x37 x38 x39 x40 x41 : Addr} (X : K.In h) (G : h.Ns mainGlobals mg) (hfa : mg "law" = some (.ref fa)) (T : Txt K mg ⟨x1, x2, x3, x4, x5, x6, x7, x8, x9, x10, x11, x12, x13, x14, x15, x16, x17, x18, x19, x20, x21, x22, x23, x24, x25, x26, x27, x28, x29, x30, x31, x32, x33, x34, x35, x36, x37, x38, x39, x40, x41⟩) :
    ∃ fd : FuncData, (∀ (s : Shared) (v : Value), BindsTo s fd ⟨[v], []⟩ [("_law_script", v)]) ∧ ∀ base : Heap, K.In base → base.Ns mainGlobals mg → FnG l.prog w K mg base 60 fa fd ["_law_script"] (spLaw K) := by
  obtain ⟨f, fd, F, hm⟩ := T.d_law.ex
  have e := hfa.symm.trans hm
  cases e
  obtain ⟨oc, od, kV, doc, pm, an, cdv, ct, osl, rfl, lk, hc⟩ := F.ex
  refine ⟨PySem.W.fnOf "law" "law" (defArgs s_law) (defBody s_law) (defScope s_law) .none kV doc pm an cdv ct, fun s v => .of_eq rfl, fun base _ _ => ?_⟩
  have F' := fng_fun (W := ⟨l.prog, w, K, mg, base⟩) (k := 16) (sp := spLaw K) F sc_law (fun vs H Q E ⟨a, ns, h, _⟩ => by rw [h]; rfl) (bo_law (W := ⟨l.prog, w, K, mg, base⟩) T)
  exact F'.mono (by decide)
theorem walk {l : PySem.W.OpenLaw} {q : Program} {loose : List Str} {XP : (Str → Option Value) → Heap → Prop} {YP : World → Heap → Prop} {d : DefRec} {K : Params → PySem.W.Frag} (hn : l.most = some 63) (hdf : d.params.defaults = [])
    (hY : ∀ (w : World) (h : Heap), YP w h → (K w.params).In h)
    (F : ∀ (w : World) (mg : Str → Option Value) (fa : Addr) (h : Heap), (K w.params).In h → h.Ns mainGlobals mg → mg d.name = some (.ref fa) →
      ∃ fd : FuncData, (∀ (s : Shared) (u : Value), BindsTo s fd ⟨[u], []⟩ [("_law_script", u)]) ∧ ∀ base : Heap, (K w.params).In base → base.Ns mainGlobals mg → FnG l.prog w (K w.params) mg base 60 fa fd ["_law_script"] (spLaw (K w.params))) :
    PySem.W.WalkO q loose XP YP l.row.toRowW d [] (fun f vs => PySem.call f vs) :=
  walk_ofG (n := 63) (k := 60) (x := "_law_script") (sp := fun w => spLaw (K w.params)) hn (by decide) hdf ⟨rfl, by decide, by decide⟩ hY F (fun _ _ a ns hl _ hS => ⟨a, ns, rfl, hS, hl, fun _ => rfl⟩)
end Lw

namespace Lw
open PySem PySem.Spec PyProof.Rows L2 Ly
theorem txt_of {K : PySem.W.Frag} {h : Heap} {mg : Str → Option Value} (X : K.In h) (G : h.Ns mainGlobals mg) (c : SaysM hfa hfn hex K) : Txt K mg (adOf K) := by
  obtain ⟨e1, e2⟩ := He.ba c.e
  obtain ⟨e2, e3⟩ := He.ba e2
  refine ⟨?_, ?_, ?_, ?_, ?_, ?_, ?_, ?_, ?_, ?_, ?_, ?_, ?_, ?_, ?_, ?_, ?_, ?_, ?_, ?_, ?_, ?_, ?_, ?_, ?_, ?_, ?_, ?_, ?_, ?_, ?_, ?_, ?_, ?_, ?_, ?_, ?_, ?_, ?_, ?_, ?_, ?_, ?_, ?_, ?_, ?_, ?_, ?_, ?_, ?_, ?_, ?_, ?_, ?_, ?_, ?_, ?_, ?_, ?_, ?_, ?_, ?_, ?_, ?_, ?_, ?_, ?_, ?_, ?_, ?_, ?_, ?_, ?_, ?_, ?_, ?_, ?_, ?_, ?_, ?_, ?_, ?_, ?_, ?_, ?_, ?_, ?_, ?_, ?_, ?_, ?_, ?_, ?_, ?_, ?_, ?_, ?_, ?_, ?_, ?_, ?_, ?_, ?_, ?_, ?_, ?_, ?_, ?_, ?_, ?_, ?_, ?_, ?_, ?_, ?_, ?_, ?_, ?_, ?_, ?_, ?_, ?_, ?_, ?_, ?_, ?_, ?_, ?_, ?_, ?_, ?_, ?_, ?_, ?_, ?_, ?_, ?_, ?_, ?_, ?_, ?_, ?_, ?_, ?_, ?_, ?_, ?_, ?_, ?_, ?_, ?_, ?_, ?_, ?_, ?_, ?_, ?_, ?_, ?_, ?_, ?_, ?_, ?_, ?_, ?_, ?_, ?_, ?_, ?_, ?_, ?_, ?_, ?_, ?_, ?_, ?_, ?_, ?_, ?_, ?_, ?_, ?_, ?_, ?_, ?_, ?_, ?_, ?_, ?_, ?_, ?_, ?_, ?_, ?_, ?_, ?_, ?_, ?_, ?_, ?_, ?_, ?_, ?_, ?_, ?_, ?_, ?_, ?_, ?_, ?_, ?_, ?_, ?_, ?_, ?_, ?_, ?_, ?_, ?_, ?_, ?_, ?_, ?_, ?_, ?_, ?_, ?_, ?_, ?_, ?_, ?_, ?_, ?_, ?_, ?_, ?_, ?_⟩
  · exact gf_of X G (c.d.fact 0 (f := .glo "is_integer") rfl) (c.d.def_ 0 (d := dfn "is_integer" s_is_integer) rfl)
  · exact gf_of X G (c.d.fact 1 (f := .glo "is_count") rfl) (c.d.def_ 1 (d := dfn "is_count" s_is_count) rfl)
  · exact gf_of X G (c.d.fact 2 (f := .glo "is_name") rfl) (c.d.def_ 2 (d := dfn "is_name" s_is_name) rfl)
  · exact gx_of X G (d := ⟨"InvalidNumber", "LoadError", 0⟩) rfl (List.all_eq_true.mp e1 _ (List.mem_of_getElem? (i := 0) rfl)) (c.d.fact 19 (f := .glo "InvalidNumber") rfl) (c.d.def_ 19 (d := dme "InvalidNumber" "__init__" "InvalidNumber.__init__" s_InvalidNumber_init) rfl)
  · exact He.noat_ok (c.d.fact 79 (f := .noat "InvalidNumber" "value") rfl)
  · exact gx_of X G (d := ⟨"InvalidName", "LoadError", 0⟩) rfl (List.all_eq_true.mp e1 _ (List.mem_of_getElem? (i := 1) rfl)) (c.d.fact 20 (f := .glo "InvalidName") rfl) (c.d.def_ 20 (d := dme "InvalidName" "__init__" "InvalidName.__init__" s_InvalidName_init) rfl)
  · exact He.noat_ok (c.d.fact 80 (f := .noat "InvalidName" "value") rfl)
  · exact gx_of X G (d := ⟨"InvalidMoves", "LoadError", 0⟩) rfl (List.all_eq_true.mp e1 _ (List.mem_of_getElem? (i := 2) rfl)) (c.d.fact 21 (f := .glo "InvalidMoves") rfl) (c.d.def_ 21 (d := dme "InvalidMoves" "__init__" "InvalidMoves.__init__" s_InvalidMoves_init) rfl)
  · exact He.noat_ok (c.d.fact 81 (f := .noat "InvalidMoves" "position") rfl)
  · exact gx_of X G (d := ⟨"InvalidServers", "LoadError", 0⟩) rfl (List.all_eq_true.mp e1 _ (List.mem_of_getElem? (i := 3) rfl)) (c.d.fact 22 (f := .glo "InvalidServers") rfl) (c.d.def_ 22 (d := dme "InvalidServers" "__init__" "InvalidServers.__init__" s_InvalidServers_init) rfl)
  · exact He.noat_ok (c.d.fact 82 (f := .noat "InvalidServers" "value") rfl)
  · exact gx_of X G (d := ⟨"InvalidSpeed", "LoadError", 0⟩) rfl (List.all_eq_true.mp e1 _ (List.mem_of_getElem? (i := 4) rfl)) (c.d.fact 23 (f := .glo "InvalidSpeed") rfl) (c.d.def_ 23 (d := dme "InvalidSpeed" "__init__" "InvalidSpeed.__init__" s_InvalidSpeed_init) rfl)
  · exact He.noat_ok (c.d.fact 83 (f := .noat "InvalidSpeed" "server") rfl)
  · exact gx_of X G (d := ⟨"InvalidTasks", "LoadError", 0⟩) rfl (List.all_eq_true.mp e1 _ (List.mem_of_getElem? (i := 5) rfl)) (c.d.fact 24 (f := .glo "InvalidTasks") rfl) (c.d.def_ 24 (d := dme "InvalidTasks" "__init__" "InvalidTasks.__init__" s_InvalidTasks_init) rfl)
  · exact He.noat_ok (c.d.fact 84 (f := .noat "InvalidTasks" "value") rfl)
  · exact gx_of X G (d := ⟨"InvalidTask", "LoadError", 0⟩) rfl (List.all_eq_true.mp e1 _ (List.mem_of_getElem? (i := 6) rfl)) (c.d.fact 25 (f := .glo "InvalidTask") rfl) (c.d.def_ 25 (d := dme "InvalidTask" "__init__" "InvalidTask.__init__" s_InvalidTask_init) rfl)
  · exact He.noat_ok (c.d.fact 85 (f := .noat "InvalidTask" "name") rfl)
  · exact gx_of X G (d := ⟨"InvalidWork", "LoadError", 0⟩) rfl (List.all_eq_true.mp e1 _ (List.mem_of_getElem? (i := 7) rfl)) (c.d.fact 26 (f := .glo "InvalidWork") rfl) (c.d.def_ 26 (d := dme "InvalidWork" "__init__" "InvalidWork.__init__" s_InvalidWork_init) rfl)
  · exact He.noat_ok (c.d.fact 86 (f := .noat "InvalidWork" "value") rfl)
  · exact gx_of X G (d := ⟨"InvalidYard", "LoadError", 0⟩) rfl (List.all_eq_true.mp e1 _ (List.mem_of_getElem? (i := 8) rfl)) (c.d.fact 27 (f := .glo "InvalidYard") rfl) (c.d.def_ 27 (d := dme "InvalidYard" "__init__" "InvalidYard.__init__" s_InvalidYard_init) rfl)
  · exact He.noat_ok (c.d.fact 87 (f := .noat "InvalidYard" "value") rfl)
  · exact gx_of X G (d := ⟨"InvalidAmounts", "LoadError", 0⟩) rfl (List.all_eq_true.mp e1 _ (List.mem_of_getElem? (i := 9) rfl)) (c.d.fact 28 (f := .glo "InvalidAmounts") rfl) (c.d.def_ 28 (d := dme "InvalidAmounts" "__init__" "InvalidAmounts.__init__" s_InvalidAmounts_init) rfl)
  · exact He.noat_ok (c.d.fact 88 (f := .noat "InvalidAmounts" "value") rfl)
  · exact gx_of X G (d := ⟨"WrongSum", "LoadError", 0⟩) rfl (List.all_eq_true.mp e1 _ (List.mem_of_getElem? (i := 10) rfl)) (c.d.fact 29 (f := .glo "WrongSum") rfl) (c.d.def_ 29 (d := dme "WrongSum" "__init__" "WrongSum.__init__" s_WrongSum_init) rfl)
  · exact He.noat_ok (c.d.fact 89 (f := .noat "WrongSum" "name") rfl)
  · exact gx_of X G (d := ⟨"InvalidPlan", "LoadError", 0⟩) rfl (List.all_eq_true.mp e1 _ (List.mem_of_getElem? (i := 11) rfl)) (c.d.fact 30 (f := .glo "InvalidPlan") rfl) (c.d.def_ 30 (d := dme "InvalidPlan" "__init__" "InvalidPlan.__init__" s_InvalidPlan_init) rfl)
  · exact He.noat_ok (c.d.fact 90 (f := .noat "InvalidPlan" "value") rfl)
  · exact gx_of X G (d := ⟨"InvalidGift", "LoadError", 0⟩) rfl (List.all_eq_true.mp e1 _ (List.mem_of_getElem? (i := 12) rfl)) (c.d.fact 31 (f := .glo "InvalidGift") rfl) (c.d.def_ 31 (d := dme "InvalidGift" "__init__" "InvalidGift.__init__" s_InvalidGift_init) rfl)
  · exact He.noat_ok (c.d.fact 91 (f := .noat "InvalidGift" "value") rfl)
  · exact gx_of X G (d := ⟨"InvalidShare", "LoadError", 0⟩) rfl (List.all_eq_true.mp e1 _ (List.mem_of_getElem? (i := 13) rfl)) (c.d.fact 32 (f := .glo "InvalidShare") rfl) (c.d.def_ 32 (d := dme "InvalidShare" "__init__" "InvalidShare.__init__" s_InvalidShare_init) rfl)
  · exact He.noat_ok (c.d.fact 92 (f := .noat "InvalidShare" "value") rfl)
  · exact gx_of X G (d := ⟨"InvalidLines", "LoadError", 0⟩) rfl (List.all_eq_true.mp e1 _ (List.mem_of_getElem? (i := 14) rfl)) (c.d.fact 33 (f := .glo "InvalidLines") rfl) (c.d.def_ 33 (d := dme "InvalidLines" "__init__" "InvalidLines.__init__" s_InvalidLines_init) rfl)
  · exact He.noat_ok (c.d.fact 93 (f := .noat "InvalidLines" "position") rfl)
  · exact gx_of X G (d := ⟨"InvalidBounds", "LoadError", 0⟩) rfl (List.all_eq_true.mp e1 _ (List.mem_of_getElem? (i := 15) rfl)) (c.d.fact 34 (f := .glo "InvalidBounds") rfl) (c.d.def_ 34 (d := dme "InvalidBounds" "__init__" "InvalidBounds.__init__" s_InvalidBounds_init) rfl)
  · exact He.noat_ok (c.d.fact 94 (f := .noat "InvalidBounds" "value") rfl)
  · exact gx_of X G (d := ⟨"InvalidAssignment", "LoadError", 0⟩) rfl (List.all_eq_true.mp e1 _ (List.mem_of_getElem? (i := 16) rfl)) (c.d.fact 35 (f := .glo "InvalidAssignment") rfl) (c.d.def_ 35 (d := dme "InvalidAssignment" "__init__" "InvalidAssignment.__init__" s_InvalidAssignment_init) rfl)
  · exact He.noat_ok (c.d.fact 95 (f := .noat "InvalidAssignment" "value") rfl)
  · exact gx_of X G (d := ⟨"InvalidText", "LoadError", 0⟩) rfl (List.all_eq_true.mp e1 _ (List.mem_of_getElem? (i := 17) rfl)) (c.d.fact 36 (f := .glo "InvalidText") rfl) (c.d.def_ 36 (d := dme "InvalidText" "__init__" "InvalidText.__init__" s_InvalidText_init) rfl)
  · exact He.noat_ok (c.d.fact 96 (f := .noat "InvalidText" "line") rfl)
  · exact gx_of X G (d := ⟨"InvalidClaim", "LoadError", 0⟩) rfl (List.all_eq_true.mp e1 _ (List.mem_of_getElem? (i := 18) rfl)) (c.d.fact 37 (f := .glo "InvalidClaim") rfl) (c.d.def_ 37 (d := dme "InvalidClaim" "__init__" "InvalidClaim.__init__" s_InvalidClaim_init) rfl)
  · exact He.noat_ok (c.d.fact 97 (f := .noat "InvalidClaim" "value") rfl)
  · exact gx_of X G (d := ⟨"InvalidCommand", "LoadError", 0⟩) rfl (List.all_eq_true.mp e1 _ (List.mem_of_getElem? (i := 19) rfl)) (c.d.fact 38 (f := .glo "InvalidCommand") rfl) (c.d.def_ 38 (d := dme "InvalidCommand" "__init__" "InvalidCommand.__init__" s_InvalidCommand_init) rfl)
  · exact He.noat_ok (c.d.fact 98 (f := .noat "InvalidCommand" "value") rfl)
  · exact gx_of X G (d := ⟨"UnknownServer", "MissingError", 1⟩) rfl (List.all_eq_true.mp e1 _ (List.mem_of_getElem? (i := 20) rfl)) (c.d.fact 39 (f := .glo "UnknownServer") rfl) (c.d.def_ 39 (d := dme "UnknownServer" "__init__" "UnknownServer.__init__" s_UnknownServer_init) rfl)
  · exact He.noat_ok (c.d.fact 99 (f := .noat "UnknownServer" "value") rfl)
  · exact gx_of X G (d := ⟨"UnknownTask", "MissingError", 1⟩) rfl (List.all_eq_true.mp e1 _ (List.mem_of_getElem? (i := 21) rfl)) (c.d.fact 40 (f := .glo "UnknownTask") rfl) (c.d.def_ 40 (d := dme "UnknownTask" "__init__" "UnknownTask.__init__" s_UnknownTask_init) rfl)
  · exact He.noat_ok (c.d.fact 100 (f := .noat "UnknownTask" "value") rfl)
  · exact gx_of X G (d := ⟨"UnknownPlace", "MissingError", 1⟩) rfl (List.all_eq_true.mp e1 _ (List.mem_of_getElem? (i := 22) rfl)) (c.d.fact 41 (f := .glo "UnknownPlace") rfl) (c.d.def_ 41 (d := dme "UnknownPlace" "__init__" "UnknownPlace.__init__" s_UnknownPlace_init) rfl)
  · exact He.noat_ok (c.d.fact 101 (f := .noat "UnknownPlace" "value") rfl)
  · exact gx_of X G (d := ⟨"ServerTaken", "StateError", 2⟩) rfl (List.all_eq_true.mp e1 _ (List.mem_of_getElem? (i := 23) rfl)) (c.d.fact 42 (f := .glo "ServerTaken") rfl) (c.d.def_ 42 (d := dme "ServerTaken" "__init__" "ServerTaken.__init__" s_ServerTaken_init) rfl)
  · exact He.noat_ok (c.d.fact 102 (f := .noat "ServerTaken" "value") rfl)
  · exact gx_of X G (d := ⟨"TaskTaken", "StateError", 2⟩) rfl (List.all_eq_true.mp e1 _ (List.mem_of_getElem? (i := 24) rfl)) (c.d.fact 43 (f := .glo "TaskTaken") rfl) (c.d.def_ 43 (d := dme "TaskTaken" "__init__" "TaskTaken.__init__" s_TaskTaken_init) rfl)
  · exact He.noat_ok (c.d.fact 103 (f := .noat "TaskTaken" "value") rfl)
  · exact gx_of X G (d := ⟨"PlaceTaken", "StateError", 2⟩) rfl (List.all_eq_true.mp e1 _ (List.mem_of_getElem? (i := 25) rfl)) (c.d.fact 44 (f := .glo "PlaceTaken") rfl) (c.d.def_ 44 (d := dme "PlaceTaken" "__init__" "PlaceTaken.__init__" s_PlaceTaken_init) rfl)
  · exact He.noat_ok (c.d.fact 104 (f := .noat "PlaceTaken" "value") rfl)
  · exact gx_of X G (d := ⟨"LastPlace", "StateError", 2⟩) rfl (List.all_eq_true.mp e1 _ (List.mem_of_getElem? (i := 26) rfl)) (c.d.fact 45 (f := .glo "LastPlace") rfl) (c.d.def_ 45 (d := dme "LastPlace" "__init__" "LastPlace.__init__" s_LastPlace_init) rfl)
  · exact He.noat_ok (c.d.fact 105 (f := .noat "LastPlace" "value") rfl)
  · exact gx_of X G (d := ⟨"OtherServers", "StateError", 2⟩) rfl (List.all_eq_true.mp e1 _ (List.mem_of_getElem? (i := 27) rfl)) (c.d.fact 46 (f := .glo "OtherServers") rfl) (c.d.def_ 46 (d := dme "OtherServers" "__init__" "OtherServers.__init__" s_OtherServers_init) rfl)
  · exact He.noat_ok (c.d.fact 106 (f := .noat "OtherServers" "one") rfl)
  · exact He.noat_ok (c.d.fact 107 (f := .noat "OtherServers" "other") rfl)
  · exact gx_of X G (d := ⟨"OtherYard", "StateError", 2⟩) rfl (List.all_eq_true.mp e1 _ (List.mem_of_getElem? (i := 28) rfl)) (c.d.fact 47 (f := .glo "OtherYard") rfl) (c.d.def_ 47 (d := dme "OtherYard" "__init__" "OtherYard.__init__" s_OtherYard_init) rfl)
  · exact He.noat_ok (c.d.fact 108 (f := .noat "OtherYard" "one") rfl)
  · exact He.noat_ok (c.d.fact 109 (f := .noat "OtherYard" "other") rfl)
  · exact gx_of X G (d := ⟨"Impossible", "StateError", 2⟩) rfl (List.all_eq_true.mp e1 _ (List.mem_of_getElem? (i := 29) rfl)) (c.d.fact 48 (f := .glo "Impossible") rfl) (c.d.def_ 48 (d := dme "Impossible" "__init__" "Impossible.__init__" s_Impossible_init) rfl)
  · exact He.noat_ok (c.d.fact 110 (f := .noat "Impossible" "position") rfl)
  · exact gx_of X G (d := ⟨"Overfull", "StateError", 2⟩) rfl (List.all_eq_true.mp e1 _ (List.mem_of_getElem? (i := 30) rfl)) (c.d.fact 49 (f := .glo "Overfull") rfl) (c.d.def_ 49 (d := dme "Overfull" "__init__" "Overfull.__init__" s_Overfull_init) rfl)
  · exact He.noat_ok (c.d.fact 111 (f := .noat "Overfull" "bar") rfl)
  · exact gx_of X G (d := ⟨"OutOfSpan", "StateError", 2⟩) rfl (List.all_eq_true.mp e1 _ (List.mem_of_getElem? (i := 31) rfl)) (c.d.fact 50 (f := .glo "OutOfSpan") rfl) (c.d.def_ 50 (d := dme "OutOfSpan" "__init__" "OutOfSpan.__init__" s_OutOfSpan_init) rfl)
  · exact He.noat_ok (c.d.fact 112 (f := .noat "OutOfSpan" "value") rfl)
  · exact gx_of X G (d := ⟨"NotWhole", "StateError", 2⟩) rfl (List.all_eq_true.mp e1 _ (List.mem_of_getElem? (i := 32) rfl)) (c.d.fact 51 (f := .glo "NotWhole") rfl) (c.d.def_ 51 (d := dme "NotWhole" "__init__" "NotWhole.__init__" s_NotWhole_init) rfl)
  · exact He.noat_ok (c.d.fact 113 (f := .noat "NotWhole" "value") rfl)
  · exact gx_of X G (d := ⟨"NothingToUndo", "StateError", 2⟩) rfl (List.all_eq_true.mp e1 _ (List.mem_of_getElem? (i := 33) rfl)) (c.d.fact 52 (f := .glo "NothingToUndo") rfl) (c.d.def_ 52 (d := dme "NothingToUndo" "__init__" "NothingToUndo.__init__" s_NothingToUndo_init) rfl)
  · exact gx_of X G (d := ⟨"CommandFailed", "StateError", 2⟩) rfl (List.all_eq_true.mp e1 _ (List.mem_of_getElem? (i := 34) rfl)) (c.d.fact 53 (f := .glo "CommandFailed") rfl) (c.d.def_ 53 (d := dme "CommandFailed" "__init__" "CommandFailed.__init__" s_CommandFailed_init) rfl)
  · exact He.noat_ok (c.d.fact 114 (f := .noat "CommandFailed" "position") rfl)
  · exact gx_of X G (d := ⟨"DividedByZero", "LimitError", 3⟩) rfl (List.all_eq_true.mp e1 _ (List.mem_of_getElem? (i := 35) rfl)) (c.d.fact 54 (f := .glo "DividedByZero") rfl) (c.d.def_ 54 (d := dme "DividedByZero" "__init__" "DividedByZero.__init__" s_DividedByZero_init) rfl)
  · exact gx_of X G (d := ⟨"TooMany", "LimitError", 3⟩) rfl (List.all_eq_true.mp e1 _ (List.mem_of_getElem? (i := 36) rfl)) (c.d.fact 55 (f := .glo "TooMany") rfl) (c.d.def_ 55 (d := dme "TooMany" "__init__" "TooMany.__init__" s_TooMany_init) rfl)
  · exact He.noat_ok (c.d.fact 115 (f := .noat "TooMany" "what") rfl)
  · exact He.noat_ok (c.d.fact 116 (f := .noat "TooMany" "limit") rfl)
  · exact gf_of X G (c.d.fact 3 (f := .glo "_law_pot") rfl) (c.d.def_ 3 (d := dfn "_law_pot" s_law_pot) rfl)
  · exact gf_of X G (c.d.fact 4 (f := .glo "_law_draw") rfl) (c.d.def_ 4 (d := dfn "_law_draw" s_law_draw) rfl)
  · exact gf_of X G (c.d.fact 5 (f := .glo "_law_pick") rfl) (c.d.def_ 5 (d := dfn "_law_pick" s_law_pick) rfl)
  · exact gf_of X G (c.d.fact 6 (f := .glo "_law_thing") rfl) (c.d.def_ 6 (d := dfn "_law_thing" s_law_thing) rfl)
  · exact gf_of X G (c.d.fact 7 (f := .glo "_law_is_named") rfl) (c.d.def_ 7 (d := dfn "_law_is_named" s_law_is_named) rfl)
  · exact gf_of X G (c.d.fact 8 (f := .glo "_law_kinds_right") rfl) (c.d.def_ 8 (d := dfn "_law_kinds_right" s_law_kinds_right) rfl)
  · exact gf_of X G (c.d.fact 9 (f := .glo "_law_load_errors") rfl) (c.d.def_ 9 (d := dfn "_law_load_errors" s_law_load_errors) rfl)
  · exact gf_of X G (c.d.fact 10 (f := .glo "_law_which_load") rfl) (c.d.def_ 10 (d := dfn "_law_which_load" s_law_which_load) rfl)
  · exact gf_of X G (c.d.fact 11 (f := .glo "_law_other_errors") rfl) (c.d.def_ 11 (d := dfn "_law_other_errors" s_law_other_errors) rfl)
  · exact gf_of X G (c.d.fact 12 (f := .glo "_law_which_other") rfl) (c.d.def_ 12 (d := dfn "_law_which_other" s_law_which_other) rfl)
  · exact gf_of X G (c.d.fact 13 (f := .glo "_law_bases") rfl) (c.d.def_ 13 (d := dfn "_law_bases" s_law_bases) rfl)
  · exact gf_of X G (c.d.fact 14 (f := .glo "_law_classes_right") rfl) (c.d.def_ 14 (d := dfn "_law_classes_right" s_law_classes_right) rfl)
  · exact gf_of X G (c.d.fact 15 (f := .glo "_law_fields_right") rfl) (c.d.def_ 15 (d := dfn "_law_fields_right" s_law_fields_right) rfl)
  · exact gf_of X G (c.d.fact 16 (f := .glo "_law_named_right") rfl) (c.d.def_ 16 (d := dfn "_law_named_right" s_law_named_right) rfl)
  · exact gf_of X G (c.d.fact 17 (f := .glo "_law_right") rfl) (c.d.def_ 17 (d := dfn "_law_right" s_law_right) rfl)
  · exact gf_of X G (c.d.fact 18 (f := .glo "law") rfl) (c.d.def_ 18 (d := dfn "law" s_law) rfl)
  · exact He.glo_ok X G (c.d.fact 19 (f := .glo "InvalidNumber") rfl)
  · exact leaf_mro (d := ⟨"InvalidNumber", "LoadError", 0⟩) (List.all_eq_true.mp e1 _ (List.mem_of_getElem? (i := 0) rfl))
  · exact leaf_ty (d := ⟨"InvalidNumber", "LoadError", 0⟩) (List.all_eq_true.mp e1 _ (List.mem_of_getElem? (i := 0) rfl))
  · exact He.glo_ok X G (c.d.fact 20 (f := .glo "InvalidName") rfl)
  · exact leaf_mro (d := ⟨"InvalidName", "LoadError", 0⟩) (List.all_eq_true.mp e1 _ (List.mem_of_getElem? (i := 1) rfl))
  · exact leaf_ty (d := ⟨"InvalidName", "LoadError", 0⟩) (List.all_eq_true.mp e1 _ (List.mem_of_getElem? (i := 1) rfl))
  · exact He.glo_ok X G (c.d.fact 21 (f := .glo "InvalidMoves") rfl)
  · exact leaf_mro (d := ⟨"InvalidMoves", "LoadError", 0⟩) (List.all_eq_true.mp e1 _ (List.mem_of_getElem? (i := 2) rfl))
  · exact leaf_ty (d := ⟨"InvalidMoves", "LoadError", 0⟩) (List.all_eq_true.mp e1 _ (List.mem_of_getElem? (i := 2) rfl))
  · exact He.glo_ok X G (c.d.fact 22 (f := .glo "InvalidServers") rfl)
  · exact leaf_mro (d := ⟨"InvalidServers", "LoadError", 0⟩) (List.all_eq_true.mp e1 _ (List.mem_of_getElem? (i := 3) rfl))
  · exact leaf_ty (d := ⟨"InvalidServers", "LoadError", 0⟩) (List.all_eq_true.mp e1 _ (List.mem_of_getElem? (i := 3) rfl))
  · exact He.glo_ok X G (c.d.fact 23 (f := .glo "InvalidSpeed") rfl)
  · exact leaf_mro (d := ⟨"InvalidSpeed", "LoadError", 0⟩) (List.all_eq_true.mp e1 _ (List.mem_of_getElem? (i := 4) rfl))
  · exact leaf_ty (d := ⟨"InvalidSpeed", "LoadError", 0⟩) (List.all_eq_true.mp e1 _ (List.mem_of_getElem? (i := 4) rfl))
  · exact He.glo_ok X G (c.d.fact 24 (f := .glo "InvalidTasks") rfl)
  · exact leaf_mro (d := ⟨"InvalidTasks", "LoadError", 0⟩) (List.all_eq_true.mp e1 _ (List.mem_of_getElem? (i := 5) rfl))
  · exact leaf_ty (d := ⟨"InvalidTasks", "LoadError", 0⟩) (List.all_eq_true.mp e1 _ (List.mem_of_getElem? (i := 5) rfl))
  · exact He.glo_ok X G (c.d.fact 25 (f := .glo "InvalidTask") rfl)
  · exact leaf_mro (d := ⟨"InvalidTask", "LoadError", 0⟩) (List.all_eq_true.mp e1 _ (List.mem_of_getElem? (i := 6) rfl))
  · exact leaf_ty (d := ⟨"InvalidTask", "LoadError", 0⟩) (List.all_eq_true.mp e1 _ (List.mem_of_getElem? (i := 6) rfl))
  · exact He.glo_ok X G (c.d.fact 26 (f := .glo "InvalidWork") rfl)
  · exact leaf_mro (d := ⟨"InvalidWork", "LoadError", 0⟩) (List.all_eq_true.mp e1 _ (List.mem_of_getElem? (i := 7) rfl))
  · exact leaf_ty (d := ⟨"InvalidWork", "LoadError", 0⟩) (List.all_eq_true.mp e1 _ (List.mem_of_getElem? (i := 7) rfl))
  · exact He.glo_ok X G (c.d.fact 27 (f := .glo "InvalidYard") rfl)
  · exact leaf_mro (d := ⟨"InvalidYard", "LoadError", 0⟩) (List.all_eq_true.mp e1 _ (List.mem_of_getElem? (i := 8) rfl))
  · exact leaf_ty (d := ⟨"InvalidYard", "LoadError", 0⟩) (List.all_eq_true.mp e1 _ (List.mem_of_getElem? (i := 8) rfl))
  · exact He.glo_ok X G (c.d.fact 28 (f := .glo "InvalidAmounts") rfl)
  · exact leaf_mro (d := ⟨"InvalidAmounts", "LoadError", 0⟩) (List.all_eq_true.mp e1 _ (List.mem_of_getElem? (i := 9) rfl))
  · exact leaf_ty (d := ⟨"InvalidAmounts", "LoadError", 0⟩) (List.all_eq_true.mp e1 _ (List.mem_of_getElem? (i := 9) rfl))
  · exact He.glo_ok X G (c.d.fact 29 (f := .glo "WrongSum") rfl)
  · exact leaf_mro (d := ⟨"WrongSum", "LoadError", 0⟩) (List.all_eq_true.mp e1 _ (List.mem_of_getElem? (i := 10) rfl))
  · exact leaf_ty (d := ⟨"WrongSum", "LoadError", 0⟩) (List.all_eq_true.mp e1 _ (List.mem_of_getElem? (i := 10) rfl))
  · exact He.glo_ok X G (c.d.fact 30 (f := .glo "InvalidPlan") rfl)
  · exact leaf_mro (d := ⟨"InvalidPlan", "LoadError", 0⟩) (List.all_eq_true.mp e1 _ (List.mem_of_getElem? (i := 11) rfl))
  · exact leaf_ty (d := ⟨"InvalidPlan", "LoadError", 0⟩) (List.all_eq_true.mp e1 _ (List.mem_of_getElem? (i := 11) rfl))
  · exact He.glo_ok X G (c.d.fact 31 (f := .glo "InvalidGift") rfl)
  · exact leaf_mro (d := ⟨"InvalidGift", "LoadError", 0⟩) (List.all_eq_true.mp e1 _ (List.mem_of_getElem? (i := 12) rfl))
  · exact leaf_ty (d := ⟨"InvalidGift", "LoadError", 0⟩) (List.all_eq_true.mp e1 _ (List.mem_of_getElem? (i := 12) rfl))
  · exact He.glo_ok X G (c.d.fact 32 (f := .glo "InvalidShare") rfl)
  · exact leaf_mro (d := ⟨"InvalidShare", "LoadError", 0⟩) (List.all_eq_true.mp e1 _ (List.mem_of_getElem? (i := 13) rfl))
  · exact leaf_ty (d := ⟨"InvalidShare", "LoadError", 0⟩) (List.all_eq_true.mp e1 _ (List.mem_of_getElem? (i := 13) rfl))
  · exact He.glo_ok X G (c.d.fact 33 (f := .glo "InvalidLines") rfl)
  · exact leaf_mro (d := ⟨"InvalidLines", "LoadError", 0⟩) (List.all_eq_true.mp e1 _ (List.mem_of_getElem? (i := 14) rfl))
  · exact leaf_ty (d := ⟨"InvalidLines", "LoadError", 0⟩) (List.all_eq_true.mp e1 _ (List.mem_of_getElem? (i := 14) rfl))
  · exact He.glo_ok X G (c.d.fact 34 (f := .glo "InvalidBounds") rfl)
  · exact leaf_mro (d := ⟨"InvalidBounds", "LoadError", 0⟩) (List.all_eq_true.mp e1 _ (List.mem_of_getElem? (i := 15) rfl))
  · exact leaf_ty (d := ⟨"InvalidBounds", "LoadError", 0⟩) (List.all_eq_true.mp e1 _ (List.mem_of_getElem? (i := 15) rfl))
  · exact He.glo_ok X G (c.d.fact 35 (f := .glo "InvalidAssignment") rfl)
  · exact leaf_mro (d := ⟨"InvalidAssignment", "LoadError", 0⟩) (List.all_eq_true.mp e1 _ (List.mem_of_getElem? (i := 16) rfl))
  · exact leaf_ty (d := ⟨"InvalidAssignment", "LoadError", 0⟩) (List.all_eq_true.mp e1 _ (List.mem_of_getElem? (i := 16) rfl))
  · exact He.glo_ok X G (c.d.fact 36 (f := .glo "InvalidText") rfl)
  · exact leaf_mro (d := ⟨"InvalidText", "LoadError", 0⟩) (List.all_eq_true.mp e1 _ (List.mem_of_getElem? (i := 17) rfl))
  · exact leaf_ty (d := ⟨"InvalidText", "LoadError", 0⟩) (List.all_eq_true.mp e1 _ (List.mem_of_getElem? (i := 17) rfl))
  · exact He.glo_ok X G (c.d.fact 37 (f := .glo "InvalidClaim") rfl)
  · exact leaf_mro (d := ⟨"InvalidClaim", "LoadError", 0⟩) (List.all_eq_true.mp e1 _ (List.mem_of_getElem? (i := 18) rfl))
  · exact leaf_ty (d := ⟨"InvalidClaim", "LoadError", 0⟩) (List.all_eq_true.mp e1 _ (List.mem_of_getElem? (i := 18) rfl))
  · exact He.glo_ok X G (c.d.fact 38 (f := .glo "InvalidCommand") rfl)
  · exact leaf_mro (d := ⟨"InvalidCommand", "LoadError", 0⟩) (List.all_eq_true.mp e1 _ (List.mem_of_getElem? (i := 19) rfl))
  · exact leaf_ty (d := ⟨"InvalidCommand", "LoadError", 0⟩) (List.all_eq_true.mp e1 _ (List.mem_of_getElem? (i := 19) rfl))
  · exact He.glo_ok X G (c.d.fact 39 (f := .glo "UnknownServer") rfl)
  · exact leaf_mro (d := ⟨"UnknownServer", "MissingError", 1⟩) (List.all_eq_true.mp e1 _ (List.mem_of_getElem? (i := 20) rfl))
  · exact leaf_ty (d := ⟨"UnknownServer", "MissingError", 1⟩) (List.all_eq_true.mp e1 _ (List.mem_of_getElem? (i := 20) rfl))
  · exact He.glo_ok X G (c.d.fact 40 (f := .glo "UnknownTask") rfl)
  · exact leaf_mro (d := ⟨"UnknownTask", "MissingError", 1⟩) (List.all_eq_true.mp e1 _ (List.mem_of_getElem? (i := 21) rfl))
  · exact leaf_ty (d := ⟨"UnknownTask", "MissingError", 1⟩) (List.all_eq_true.mp e1 _ (List.mem_of_getElem? (i := 21) rfl))
  · exact He.glo_ok X G (c.d.fact 41 (f := .glo "UnknownPlace") rfl)
  · exact leaf_mro (d := ⟨"UnknownPlace", "MissingError", 1⟩) (List.all_eq_true.mp e1 _ (List.mem_of_getElem? (i := 22) rfl))
  · exact leaf_ty (d := ⟨"UnknownPlace", "MissingError", 1⟩) (List.all_eq_true.mp e1 _ (List.mem_of_getElem? (i := 22) rfl))
  · exact He.glo_ok X G (c.d.fact 42 (f := .glo "ServerTaken") rfl)
  · exact leaf_mro (d := ⟨"ServerTaken", "StateError", 2⟩) (List.all_eq_true.mp e1 _ (List.mem_of_getElem? (i := 23) rfl))
  · exact leaf_ty (d := ⟨"ServerTaken", "StateError", 2⟩) (List.all_eq_true.mp e1 _ (List.mem_of_getElem? (i := 23) rfl))
  · exact He.glo_ok X G (c.d.fact 43 (f := .glo "TaskTaken") rfl)
  · exact leaf_mro (d := ⟨"TaskTaken", "StateError", 2⟩) (List.all_eq_true.mp e1 _ (List.mem_of_getElem? (i := 24) rfl))
  · exact leaf_ty (d := ⟨"TaskTaken", "StateError", 2⟩) (List.all_eq_true.mp e1 _ (List.mem_of_getElem? (i := 24) rfl))
  · exact He.glo_ok X G (c.d.fact 44 (f := .glo "PlaceTaken") rfl)
  · exact leaf_mro (d := ⟨"PlaceTaken", "StateError", 2⟩) (List.all_eq_true.mp e1 _ (List.mem_of_getElem? (i := 25) rfl))
  · exact leaf_ty (d := ⟨"PlaceTaken", "StateError", 2⟩) (List.all_eq_true.mp e1 _ (List.mem_of_getElem? (i := 25) rfl))
  · exact He.glo_ok X G (c.d.fact 45 (f := .glo "LastPlace") rfl)
  · exact leaf_mro (d := ⟨"LastPlace", "StateError", 2⟩) (List.all_eq_true.mp e1 _ (List.mem_of_getElem? (i := 26) rfl))
  · exact leaf_ty (d := ⟨"LastPlace", "StateError", 2⟩) (List.all_eq_true.mp e1 _ (List.mem_of_getElem? (i := 26) rfl))
  · exact He.glo_ok X G (c.d.fact 46 (f := .glo "OtherServers") rfl)
  · exact leaf_mro (d := ⟨"OtherServers", "StateError", 2⟩) (List.all_eq_true.mp e1 _ (List.mem_of_getElem? (i := 27) rfl))
  · exact leaf_ty (d := ⟨"OtherServers", "StateError", 2⟩) (List.all_eq_true.mp e1 _ (List.mem_of_getElem? (i := 27) rfl))
  · exact He.glo_ok X G (c.d.fact 47 (f := .glo "OtherYard") rfl)
  · exact leaf_mro (d := ⟨"OtherYard", "StateError", 2⟩) (List.all_eq_true.mp e1 _ (List.mem_of_getElem? (i := 28) rfl))
  · exact leaf_ty (d := ⟨"OtherYard", "StateError", 2⟩) (List.all_eq_true.mp e1 _ (List.mem_of_getElem? (i := 28) rfl))
  · exact He.glo_ok X G (c.d.fact 48 (f := .glo "Impossible") rfl)
  · exact leaf_mro (d := ⟨"Impossible", "StateError", 2⟩) (List.all_eq_true.mp e1 _ (List.mem_of_getElem? (i := 29) rfl))
  · exact leaf_ty (d := ⟨"Impossible", "StateError", 2⟩) (List.all_eq_true.mp e1 _ (List.mem_of_getElem? (i := 29) rfl))
  · exact He.glo_ok X G (c.d.fact 49 (f := .glo "Overfull") rfl)
  · exact leaf_mro (d := ⟨"Overfull", "StateError", 2⟩) (List.all_eq_true.mp e1 _ (List.mem_of_getElem? (i := 30) rfl))
  · exact leaf_ty (d := ⟨"Overfull", "StateError", 2⟩) (List.all_eq_true.mp e1 _ (List.mem_of_getElem? (i := 30) rfl))
  · exact He.glo_ok X G (c.d.fact 50 (f := .glo "OutOfSpan") rfl)
  · exact leaf_mro (d := ⟨"OutOfSpan", "StateError", 2⟩) (List.all_eq_true.mp e1 _ (List.mem_of_getElem? (i := 31) rfl))
  · exact leaf_ty (d := ⟨"OutOfSpan", "StateError", 2⟩) (List.all_eq_true.mp e1 _ (List.mem_of_getElem? (i := 31) rfl))
  · exact He.glo_ok X G (c.d.fact 51 (f := .glo "NotWhole") rfl)
  · exact leaf_mro (d := ⟨"NotWhole", "StateError", 2⟩) (List.all_eq_true.mp e1 _ (List.mem_of_getElem? (i := 32) rfl))
  · exact leaf_ty (d := ⟨"NotWhole", "StateError", 2⟩) (List.all_eq_true.mp e1 _ (List.mem_of_getElem? (i := 32) rfl))
  · exact He.glo_ok X G (c.d.fact 52 (f := .glo "NothingToUndo") rfl)
  · exact leaf_mro (d := ⟨"NothingToUndo", "StateError", 2⟩) (List.all_eq_true.mp e1 _ (List.mem_of_getElem? (i := 33) rfl))
  · exact leaf_ty (d := ⟨"NothingToUndo", "StateError", 2⟩) (List.all_eq_true.mp e1 _ (List.mem_of_getElem? (i := 33) rfl))
  · exact He.glo_ok X G (c.d.fact 53 (f := .glo "CommandFailed") rfl)
  · exact leaf_mro (d := ⟨"CommandFailed", "StateError", 2⟩) (List.all_eq_true.mp e1 _ (List.mem_of_getElem? (i := 34) rfl))
  · exact leaf_ty (d := ⟨"CommandFailed", "StateError", 2⟩) (List.all_eq_true.mp e1 _ (List.mem_of_getElem? (i := 34) rfl))
  · exact He.glo_ok X G (c.d.fact 54 (f := .glo "DividedByZero") rfl)
  · exact leaf_mro (d := ⟨"DividedByZero", "LimitError", 3⟩) (List.all_eq_true.mp e1 _ (List.mem_of_getElem? (i := 35) rfl))
  · exact leaf_ty (d := ⟨"DividedByZero", "LimitError", 3⟩) (List.all_eq_true.mp e1 _ (List.mem_of_getElem? (i := 35) rfl))
  · exact He.glo_ok X G (c.d.fact 55 (f := .glo "TooMany") rfl)
  · exact leaf_mro (d := ⟨"TooMany", "LimitError", 3⟩) (List.all_eq_true.mp e1 _ (List.mem_of_getElem? (i := 36) rfl))
  · exact leaf_ty (d := ⟨"TooMany", "LimitError", 3⟩) (List.all_eq_true.mp e1 _ (List.mem_of_getElem? (i := 36) rfl))
  · exact He.glo_ok X G (c.d.fact 56 (f := .glo "LoadError") rfl)
  · exact base_mro (d := ("LoadError", 0)) (List.all_eq_true.mp e2 _ (List.mem_of_getElem? (i := 0) rfl))
  · exact base_ty (d := ("LoadError", 0)) (List.all_eq_true.mp e2 _ (List.mem_of_getElem? (i := 0) rfl))
  · exact He.glo_ok X G (c.d.fact 57 (f := .glo "MissingError") rfl)
  · exact base_mro (d := ("MissingError", 1)) (List.all_eq_true.mp e2 _ (List.mem_of_getElem? (i := 1) rfl))
  · exact base_ty (d := ("MissingError", 1)) (List.all_eq_true.mp e2 _ (List.mem_of_getElem? (i := 1) rfl))
  · exact He.glo_ok X G (c.d.fact 58 (f := .glo "StateError") rfl)
  · exact base_mro (d := ("StateError", 2)) (List.all_eq_true.mp e2 _ (List.mem_of_getElem? (i := 2) rfl))
  · exact base_ty (d := ("StateError", 2)) (List.all_eq_true.mp e2 _ (List.mem_of_getElem? (i := 2) rfl))
  · exact He.glo_ok X G (c.d.fact 59 (f := .glo "LimitError") rfl)
  · exact base_mro (d := ("LimitError", 3)) (List.all_eq_true.mp e2 _ (List.mem_of_getElem? (i := 3) rfl))
  · exact base_ty (d := ("LimitError", 3)) (List.all_eq_true.mp e2 _ (List.mem_of_getElem? (i := 3) rfl))
  · exact of_decide_eq_true e3
  · exact He.free_ok X G (c.d.fact 60 (f := .free "abs") rfl)
  · exact He.free_ok X G (c.d.fact 61 (f := .free "len") rfl)
  · exact He.free_ok X G (c.d.fact 62 (f := .free "divmod") rfl)
  · exact He.free_ok X G (c.d.fact 63 (f := .free "max") rfl)
  · exact He.free_ok X G (c.d.fact 64 (f := .free "min") rfl)
  · exact He.free_ok X G (c.d.fact 65 (f := .free "all") rfl)
  · exact He.free_ok X G (c.d.fact 66 (f := .free "int") rfl)
  · exact He.free_ok X G (c.d.fact 67 (f := .free "str") rfl)
  · exact He.free_ok X G (c.d.fact 68 (f := .free "bool") rfl)
  · exact He.free_ok X G (c.d.fact 69 (f := .free "isinstance") rfl)
  · exact He.free_ok X G (c.d.fact 70 (f := .free "range") rfl)
  · exact He.free_ok X G (c.d.fact 71 (f := .free "repr") rfl)
  · exact He.free_ok X G (c.d.fact 72 (f := .free "tuple") rfl)
  · exact He.free_ok X G (c.d.fact 73 (f := .free "enumerate") rfl)
  · exact He.free_ok X G (c.d.fact 74 (f := .free "ValueError") rfl)
  · exact He.free_ok X G (c.d.fact 75 (f := .free "LookupError") rfl)
  · exact He.free_ok X G (c.d.fact 76 (f := .free "RuntimeError") rfl)
  · exact He.free_ok X G (c.d.fact 77 (f := .free "ArithmeticError") rfl)
  · exact He.free_ok X G (c.d.fact 78 (f := .free "TypeError") rfl)
end Lw

open PySem PySem.W PySem.Calls PyProof.Rows
set_option maxRecDepth 100000 in
set_option maxHeartbeats 0 in
theorem PySem.Challenge.cw_evenloads_k10_kinds_and_errors_holds : PySem.Challenge.rw_evenloads_k10_kinds_and_errors.Holds := by
  w_on; o_law
  refine HandSHeadRun.head_any (r := OpenLaw.row PySem.Challenge.rw_evenloads_k10_kinds_and_errors) (q := Lw.hq) (H := Ly.hookM Lw.hfa Lw.hfn Lw.hex) (ob := Lw.hob) (M := 11000) (loose := Lw.hnames) (d := HandSHeadRun.topDef (OpenLaw.row PySem.Challenge.rw_evenloads_k10_kinds_and_errors).prog 62) (kwd := []) Lw.hob_eq
    (by kernel_rfl) (fun s => by kernel_rfl) Lw.hrun (by kernel_rfl) (by kernel_rfl) (by kernel_rfl) (by rfl) (by first | assumption | decide +kernel) (by decide +kernel) ⟨rfl, rfl, rfl, rfl, rfl, by decide +kernel⟩ ?hw ?hc
  case hw => w_witness2
  case hc =>
    refine Ly.walk_ofGE (l := PySem.Challenge.rw_evenloads_k10_kinds_and_errors) (n := 63) (k := 60) (x := "_law_script") rfl (by decide) (by kernel_rfl) ⟨rfl, by decide, by decide⟩ ?F
    intro w mg fa h Y G hmg0
    obtain ⟨K, KX, c⟩ := Y
    have hmg : mg ("law" : PySem.Str) = some (.ref fa) := by
      have e : (HandSHeadRun.topDef (OpenLaw.row PySem.Challenge.rw_evenloads_k10_kinds_and_errors).prog 62).name = ("law" : PySem.Str) := by kernel_rfl
      rw [← e]
      exact hmg0
    obtain ⟨fd, hb, hF⟩ := Lw.fin (l := PySem.Challenge.rw_evenloads_k10_kinds_and_errors) (w := w) KX G hmg (Lw.txt_of KX G c)
    exact ⟨K, fd, Lw.spLaw K, KX, hb, fun H a ns hl _ hS => ⟨a, ns, rfl, hS, hl, fun _ => rfl⟩, hF⟩
