import PyProof.Rows.All
import Wide.All
import OpenK.AllK
import Wide.FinOn
import KE.KStateDown
import HandS.Ends
import HandS.Words
import HandS.Head0
import HandS.Head1
import HandS.Head2
import HandS.Head3
import HandS.HeadHook1
import HandS.HeadHook2
import HandS.ClsMeth
import HandS.Property
import KE.KExcInit
import KE.KNestM
import HandS.HeadHook4
import HandS.ForMost
import HandS.Wide
import HandS.WideBits
import HandS.Defaults
import HandS.Gcd
import HandS.FStr
import HandS.StrMore
import HandS.IsInst
import KE.KOpsOwn
import HandS.OwnEq
import PyProof.Rows.Range3
import HandS.MakeKwOnly
import HandS.Evl
import HandS.Text
import HandS.Iter
import HandS.ExcInit
import PyProof.ExcBaseAll.ValueError
import PyProof.ExcBaseAll.LookupError
import PyProof.ExcBaseAll.RuntimeError
import PyProof.ExcBaseAll.ArithmeticError
import KE.KExcIs
import HandS.Lambda
import HandS.Walk
import HandS.TupLe
import HandS.SortRule
import HandS.DictComp
import HandS.More
import HandS.DeepEq
import PyProof.ReprNest
import OpenK.KOps
import HandS.Strs
import HandS.DictEq
import HandS.WordsDict
import HandS.RaiseMore
import KE.KMathG
import HandS.Star
import HandS.ListItems
import HandS.ExcValue
import HandS.ExcField
import KE.GoesEnum
import KE.GoesMore
import HandS.EndTab
import HandS.Style
import HandS.List
import KE.KParD
import HandS.HotCalls
import PySem.Challenge.RW_evenloads_k15_moves_and_gifts_refused
set_option Elab.async false
set_option linter.all false
set_option maxRecDepth 100000
set_option maxHeartbeats 4000000
set_option exponentiation.threshold 256
namespace Ly
open PySem PySem.Spec PyProof.Rows L2
def nextX (g : Addr → Option Obj) (as : List Addr) : List Addr := as.flatMap fun a => match g a with
  | some o => (match o.data with
    | .cls cd => [cd.ns]
    | .func fd => He.refV fd.code ++ He.refV fd.defaults
    | .dict es _ => es.toList.flatMap fun e => He.refV e.val
    | .fields vs => vs.toList.flatMap He.refV
    | _ => [])
  | none => []
def lvX (g : Addr → Option Obj) : Nat → List Addr → List Addr
  | 0, as => as
  | n + 1, as => as ++ lvX g n (nextX g as)
def asX (g : Addr → Option Obj) : List Addr := cStatics :: lvX g 5 [mainGlobals]
structure DfX where
  ad : PySem.W.Frag → Addr
  name : Str
  qual : Str
  st : Stmt
  dfl : List He.Dv
def DfX.look (d : DfX) (K : PySem.W.Frag) : He.FnW := match K.lookup (d.ad K) with
  | some ⟨_, _, .func fd, _⟩ => some (fd.name, fd.qualname, fd.params, fd.body, fd.scope, fd.globals, fd.closure, fd.builtins)
  | _ => none
def DfX.val (d : DfX) : He.FnW := some (d.name, d.qual, defArgs d.st, .stmts (defBody d.st), defScope d.st, mainGlobals, [], builtinsNs)
def DfX.dvs (d : DfX) (K : PySem.W.Frag) : List V := d.dfl.map (He.Dv.v K)
def DfX.ok (d : DfX) (K : PySem.W.Frag) : Bool := PySem.W.keepIn K (.ref (d.ad K)) && (match K.lookup (d.ad K) with
  | some ⟨_, _, .func fd, _⟩ => PySem.W.codeIn K fd.code d.qual && He.dflB K fd.defaults (d.dvs K)
  | _ => false)
abbrev AlX : Type := Bool × List He.FnW
def obsK (fa : List (PySem.W.Frag → Bool)) (fn : List DfX) (K : PySem.W.Frag) : AlX := ((fa.all fun f => f K) && fn.all fun d => d.ok K, fn.map fun d => d.look K)
def valX (fn : List DfX) : AlX := (true, fn.map DfX.val)
def SaysX (fa : List (PySem.W.Frag → Bool)) (fn : List DfX) (K : PySem.W.Frag) : Prop := obsK fa fn K = valX fn
def tcP (K : PySem.W.Frag) (x : Str) : Addr × Addr := (PySem.W.tabIn K x).getD (0, 0)
def tbB (g : Addr → Option Obj) (ts : List Str) (K : PySem.W.Frag) : Bool := ts.all fun x => (PySem.W.tabIn K x).isSome && (PySem.W.codeHdIn K (tcP K x).1 (tcP K x).2 && (match g (tcP K x).2 with
  | some o => He.emptyTab o
  | none => false))
def obsY (fa : List (PySem.W.Frag → Bool)) (fn : List DfX) (ts : List Str) (g : Addr → Option Obj) : AlX × Bool := (obsK fa fn (He.frT g (asX g)), tbB g ts (He.frT g (asX g)))
structure TbL (K : PySem.W.Frag) (h : Heap) (x : Str) : Prop where
  tab : PySem.W.tabIn K x = some (tcP K x)
  hd : PySem.W.codeHdIn K (tcP K x).1 (tcP K x).2 = true
  emp : h.get? (tcP K x).2 = some { cls := .none, data := .fields #[] }
  out : K.lookup (tcP K x).2 = none
structure SaysY (fa : List (PySem.W.Frag → Bool)) (fn : List DfX) (ts : List Str) (h : Heap) (K : PySem.W.Frag) : Prop where
  says : SaysX fa fn K
  tb : ∀ x ∈ ts, TbL K h x
theorem saysY_of {fa : List (PySem.W.Frag → Bool)} {fn : List DfX} {ts : List Str} {h : Heap} (e : obsY fa fn ts h.get? = (valX fn, true)) : SaysY fa fn ts h (He.frT h.get? (asX h.get?)) := by
  obtain ⟨e1, e2⟩ := Prod.mk.inj e
  refine ⟨e1, fun x hx => ?_⟩
  have z := List.all_eq_true.mp (show (ts.all _) = true from e2) x hx
  obtain ⟨z1, z⟩ := He.ba z
  obtain ⟨z2, z3⟩ := He.ba z
  obtain ⟨p, hp⟩ := Option.isSome_iff_exists.mp z1
  cases q : h.get? (tcP (He.frT h.get? (asX h.get?)) x).2 with
  | none =>
    rw [q] at z3
    cases z3
  | some o =>
    rw [q] at z3
    have z3 : He.emptyTab o = true := z3
    exact ⟨by unfold tcP; rw [hp]; rfl, z2, by rw [q, He.emptyTab_eq z3], He.frT_none q z3⟩
def hookY (fa : List (PySem.W.Frag → Bool)) (fn : List DfX) (ts : List Str) : PySem.W.Hook where
  α := AlX × Bool
  obs := fun s => obsY fa fn ts s.heap.get?
  val := fun _ => (valX fn, true)
  says := fun _ h => ∃ K : PySem.W.Frag, K.In h ∧ SaysY fa fn ts h K
  of := fun _ _ e => ⟨_, He.frT_in, saysY_of e⟩
  keeps := fun _ _ _ ⟨K, hK, c⟩ k => ⟨K, PySem.W.Frag.In.keeps hK k, c.says, fun x hx => ⟨(c.tb x hx).tab, (c.tb x hx).hd, k _ _ (c.tb x hx).emp, (c.tb x hx).out⟩⟩
theorem obsY_eq {fa : List (PySem.W.Frag → Bool)} {fn : List DfX} {ts : List Str} {g : Addr → Option Obj} {s : Shared} (h : ∀ a, g a = s.heap.get? a) : obsY fa fn ts g = (hookY fa fn ts).obs s := by
  obtain rfl : g = s.heap.get? := funext h
  rfl
section
variable (K : PySem.W.Frag)
def rcA (p : Addr) (T : String) : Addr := match PySem.W.recIn K p T with
  | some (.ref f :: _) => f
  | _ => 0
def rcB (p : Addr) (T : String) : Bool := match PySem.W.recIn K p T with
  | some (.ref _ :: _) => true
  | _ => false
def gpA (C m : Str) : Addr := rcA K (He.ma K (He.ga K C) m) "property"
def stA (C m : Str) : Addr := match PySem.W.findCls K (.ref (He.ga K C)) (.type "type") m with
  | some (.get _ (.ref p) _ _) => p
  | _ => 0
def gsA (C m : Str) : Addr := rcA K (stA K C m) "staticmethod"
def bloB (x : Str) : Bool := He.eqO (PySem.W.nsIn K mainGlobals x) (some (some (.ref (He.ga K x))))
def freB (x : Str) : Bool := He.eqO (PySem.W.nsIn K mainGlobals x) (some none)
def biB (x : Str) (b : String) : Bool := He.eqO (PySem.W.nsIn K mainGlobals x) (some (some (.builtin b)))
def ownB (x : Str) : Bool := bloB K x && ((He.Fa.cls x).ok K && (PySem.W.keepIn K (.ref (He.ga K x)) && (PySem.W.selfFirst K (He.ga K x) && (((PySem.W.clsIn K (He.ga K x)).any fun cd => cd.mro == [.ref (He.ga K x), .type "object"]) &&
  (decide (PySem.W.subIn K (.type "int") (.ref (He.ga K x)) = some false) && (decide (PySem.W.subIn K (.ref (He.ga K x)) (.type "int") = some false) && (decide (PySem.W.subIn K (.ref (He.ga K x)) (.type "object") = some true) &&
  (PySem.W.notFirst K (He.ga K x) (.type "int") && (decide (PySem.W.typeIn K (.ref (He.ga K x)) = some (.type "type")) && (He.eqO (PySem.W.findIn K (.ref (He.ga K x)) "__class__") (some (some (.builtin "object.__class__"))) &&
  decide (PySem.W.mroIn K (He.ga K x) (.type "object") = some true)))))))))))
def noaB (x f : Str) : Bool := He.eqO (PySem.W.findIn K (.ref (He.ga K x)) f) (some none)
def kitXB (x : Str) (T : String) : Bool := (PySem.W.clsIn K (He.ga K x)).isSome && (decide (PySem.W.typeIn K (.ref (He.ga K x)) = some (.type "type")) && decide (PySem.W.subIn K (.type T) (.ref (He.ga K x)) = some false))
def metB (x m : Str) : Bool := (He.Fa.meth x m).ok K
def mkrB (x : Str) : Bool := (He.Fa.mkr x).ok K
def prpB (x m : Str) : Bool := He.eqO (PySem.W.findIn K (.ref (He.ga K x)) m) (some (some (.ref (He.ma K (He.ga K x) m)))) && (He.eqO (PySem.W.specialIn K (.ref (He.ma K (He.ga K x) m)) "__get__") (some (some (.builtin "property.__get__"))) &&
  (decide (PySem.W.takesIn K (.ref (He.ma K (He.ga K x) m)) = some true) && rcB K (He.ma K (He.ga K x) m) "property"))
def rdB (x : Str) : Bool := PySem.W.readsIn K (He.ga K x) (.type "type") && He.eqO (PySem.W.specialIn K (.ref (He.ga K x)) "__getattribute__") (some (some (.builtin "type.__getattribute__")))
def staB (x m : Str) : Bool := rdB K x && ((match PySem.W.findCls K (.ref (He.ga K x)) (.type "type") m with
  | some (.get (.builtin b) (.ref _) .none (.ref c)) => decide (b = "staticmethod.__get__") && decide (c = He.ga K x)
  | _ => false) && rcB K (stA K x m) "staticmethod")
def xTyp : Nat → String
  | 0 => "ValueError"
  | 1 => "LookupError"
  | 2 => "RuntimeError"
  | _ => "ArithmeticError"
def xNew : Nat → String
  | 0 => "ValueError.__new__"
  | 1 => "LookupError.__new__"
  | 2 => "RuntimeError.__new__"
  | _ => "ArithmeticError.__new__"
def xTail (k : Nat) : List Value := [.type (xTyp k), .type "Exception", .type "BaseException", .type "object"]
def xcB (C : Str) (k : Nat) : Bool := PySem.W.excInitIn K (He.ga K C) (xTail k) (xNew k) && (PySem.W.excOver K (He.ga K C) (xTail k) && (PySem.W.hasDictIn K (He.ga K C) && (He.eqO (PySem.W.findIn K (.ref (He.ga K C)) "__setattr__") (some (some (.builtin "object.__setattr__"))) &&
  (He.eqO (PySem.W.findIn K (.ref (He.ga K C)) "__getattribute__") (some (some (.builtin "BaseException.__getattribute__"))) && (He.eqO (PySem.W.findIn K (.ref (He.ga K C)) "__getattr__") (some none) && (decide (PySem.W.subIn K (.ref (He.ga K C)) (.type "BaseException") = some true) && (PySem.W.keepIn K (.ref (He.ga K C)) &&
  (He.eqO (PySem.W.findIn K (.ref (He.ga K C)) "__class__") (some (some (.builtin "object.__class__"))) && (He.eqO (PySem.W.specialIn K (.builtin "object.__class__") "__get__") (some (some (.builtin "getset_descriptor.__get__"))) &&
  (decide (PySem.W.takesIn K (.builtin "object.__class__") = some true) && (decide (PySem.W.mroIn K (He.ga K C) (.type "object") = some true) && (bloB K C &&
  (He.eqO (PySem.W.findIn K (.ref (He.ga K C)) "__init__") (some (some (.ref (He.ma K (He.ga K C) "__init__")))) && decide (PySem.W.typeIn K (.ref (He.ma K (He.ga K C) "__init__")) = some (.type "function")))))))))))))))
end
end Ly
namespace Lw
open PySem PySem.Spec PyProof.Rows L2 Ly
def top (i : Nat) : Stmt := PySem.Challenge.pw_evenloads_k15_moves_and_gifts_refused.main.body.getD i (.Pass ⟨0, 0, 0, 0⟩)
abbrev s_is_integer : Stmt := top 3
abbrev s_is_count : Stmt := top 4
abbrev s_is_name : Stmt := top 5
abbrev s_InvalidNumber_init : Stmt := inClass (top 8) 0
abbrev s_InvalidName_init : Stmt := inClass (top 9) 0
abbrev s_InvalidMoves_init : Stmt := inClass (top 10) 0
abbrev s_Ratio_init : Stmt := inClass (top 14) 0
abbrev s_Ratio_of : Stmt := inClass (top 14) 1
abbrev s_Ratio_top : Stmt := inClass (top 14) 3
abbrev s_Ratio_bottom : Stmt := inClass (top 14) 4
abbrev s_Ratio_over : Stmt := inClass (top 14) 17
abbrev s_Ratio_str : Stmt := inClass (top 14) 22
abbrev s_Ratio_repr : Stmt := inClass (top 14) 23
abbrev s_is_amount : Stmt := top 18
abbrev s_Move_init : Stmt := inClass (top 20) 0
abbrev s_Move_task : Stmt := inClass (top 20) 1
abbrev s_Move_start : Stmt := inClass (top 20) 2
abbrev s_Move_goal : Stmt := inClass (top 20) 3
abbrev s_Move_repr : Stmt := inClass (top 20) 11
abbrev s_Gift_init : Stmt := inClass (top 21) 0
abbrev s_Gift_single : Stmt := inClass (top 21) 1
abbrev s_break_of : Stmt := top 22
abbrev s_check_gift_amount : Stmt := top 23
abbrev s_law_pot : Stmt := top 25
abbrev s_law_draw : Stmt := top 26
abbrev s_law_pick : Stmt := top 27
abbrev s_law_named : Stmt := top 28
abbrev s_law_met : Stmt := top 29
abbrev s_law_odd_name : Stmt := top 30
abbrev s_law_odd_amount : Stmt := top 31
abbrev s_law_words : Stmt := top 32
abbrev s_law_is_named : Stmt := top 33
abbrev s_law_due : Stmt := top 34
abbrev s_law_move_right : Stmt := top 35
abbrev s_law_single_right : Stmt := top 36
abbrev s_law_broken : Stmt := top 37
abbrev s_law_gift_right : Stmt := top 38
abbrev s_law_right : Stmt := top 39
abbrev s_law : Stmt := top 40
def hfa0 : List (PySem.W.Frag → Bool) := [fun K => ownB K "Ratio", fun K => noaB K "Ratio" "_top", fun K => noaB K "Ratio" "_bottom", fun K => ownB K "Move", fun K => noaB K "Move" "_names", fun K => ownB K "Gift", fun K => noaB K "Gift" "_amount", fun K => noaB K "Gift" "_moves", fun K => bloB K "is_integer", fun K => bloB K "is_count", fun K => bloB K "is_name", fun K => xcB K "InvalidNumber" 0, fun K => decide (PySem.W.typeIn K (.ref (He.ga K "InvalidNumber")) = some (.type "type")), fun K => He.eqO (PySem.W.findIn K (.ref (He.ga K "InvalidNumber")) "value") (some none), fun K => xcB K "InvalidName" 0, fun K => decide (PySem.W.typeIn K (.ref (He.ga K "InvalidName")) = some (.type "type")), fun K => He.eqO (PySem.W.findIn K (.ref (He.ga K "InvalidName")) "value") (some none), fun K => xcB K "InvalidMoves" 0, fun K => decide (PySem.W.typeIn K (.ref (He.ga K "InvalidMoves")) = some (.type "type")), fun K => He.eqO (PySem.W.findIn K (.ref (He.ga K "InvalidMoves")) "position") (some none)]
def hfa1 : List (PySem.W.Frag → Bool) := [fun K => mkrB K "Ratio", fun K => staB K "Ratio" "of", fun K => prpB K "Ratio" "top", fun K => prpB K "Ratio" "bottom", fun K => metB K "Ratio" "over", fun K => metB K "Ratio" "__repr__", fun K => bloB K "is_amount", fun K => mkrB K "Move", fun K => prpB K "Move" "task", fun K => prpB K "Move" "start", fun K => prpB K "Move" "goal", fun K => metB K "Move" "__repr__", fun K => mkrB K "Gift", fun K => staB K "Gift" "single", fun K => bloB K "break_of", fun K => bloB K "check_gift_amount", fun K => bloB K "_law_pot", fun K => bloB K "_law_draw", fun K => bloB K "_law_pick", fun K => bloB K "_law_named"]
def hfa2 : List (PySem.W.Frag → Bool) := [fun K => bloB K "_law_met", fun K => bloB K "_law_odd_name", fun K => bloB K "_law_odd_amount", fun K => bloB K "_law_words", fun K => bloB K "_law_is_named", fun K => bloB K "_law_due", fun K => bloB K "_law_broken", fun K => bloB K "_law_right", fun K => bloB K "law", fun K => freB K "abs", fun K => freB K "len", fun K => freB K "divmod", fun K => freB K "max", fun K => freB K "min", fun K => freB K "all", fun K => freB K "int", fun K => freB K "str", fun K => freB K "bool", fun K => freB K "isinstance", fun K => freB K "range"]
def hfa3 : List (PySem.W.Frag → Bool) := [fun K => freB K "repr", fun K => freB K "enumerate", fun K => biB K "gcd" "math.gcd", fun K => decide (PySem.W.subIn K (.ref (He.ga K "Ratio")) (.type "str") = some false), fun K => bloB K "LoadError", fun K => bloB K "_law_move_right", fun K => bloB K "_law_single_right", fun K => bloB K "_law_gift_right", fun K => decide (PySem.W.exmOne K (.ref (He.ga K "InvalidName")) (.ref (He.ga K "InvalidName")) = some true), fun K => decide (PySem.W.kitOne K (.ref (He.ga K "InvalidName")) (.ref (He.ga K "LoadError")) = some true), fun K => decide (PySem.W.kitOne K (.ref (He.ga K "InvalidName")) (.type "ValueError") = some true), fun K => decide (PySem.W.exmOne K (.ref (He.ga K "InvalidNumber")) (.ref (He.ga K "InvalidName")) = some false), fun K => decide (PySem.W.exmOne K (.ref (He.ga K "InvalidNumber")) (.ref (He.ga K "InvalidNumber")) = some true), fun K => decide (PySem.W.kitOne K (.ref (He.ga K "InvalidNumber")) (.ref (He.ga K "LoadError")) = some true), fun K => decide (PySem.W.kitOne K (.ref (He.ga K "InvalidNumber")) (.type "ValueError") = some true), fun K => decide (PySem.W.exmOne K (.ref (He.ga K "InvalidMoves")) (.ref (He.ga K "InvalidName")) = some false), fun K => decide (PySem.W.exmOne K (.ref (He.ga K "InvalidMoves")) (.ref (He.ga K "InvalidNumber")) = some false), fun K => decide (PySem.W.exmOne K (.ref (He.ga K "InvalidMoves")) (.ref (He.ga K "InvalidMoves")) = some true), fun K => decide (PySem.W.kitOne K (.ref (He.ga K "InvalidMoves")) (.ref (He.ga K "LoadError")) = some true), fun K => decide (PySem.W.kitOne K (.ref (He.ga K "InvalidMoves")) (.type "ValueError") = some true)]
def hfa4 : List (PySem.W.Frag → Bool) := [fun K => freB K "ValueError", fun K => decide ((tcP K "_law_single_right").2 ≠ (tcP K "_law_move_right").2), fun K => decide ((tcP K "_law_gift_right").2 ≠ (tcP K "_law_move_right").2), fun K => decide ((tcP K "_law_gift_right").2 ≠ (tcP K "_law_single_right").2), fun K => kitXB K "Ratio" "bool", fun K => kitXB K "Ratio" "NoneType", fun K => kitXB K "Ratio" "str", fun K => kitXB K "Ratio" "tuple", fun K => kitXB K "Ratio" "list", fun K => kitXB K "Ratio" "dict", fun K => kitXB K "Move" "int", fun K => kitXB K "Move" "bool", fun K => kitXB K "Move" "NoneType", fun K => kitXB K "Move" "str", fun K => kitXB K "Move" "tuple", fun K => kitXB K "Move" "list", fun K => decide (PySem.W.kitOne K (.ref (He.ga K "Move")) (.ref (He.ga K "Ratio")) = some false), fun K => decide (PySem.W.kitOne K (.ref (He.ga K "Ratio")) (.ref (He.ga K "Move")) = some false)]
def hfa : List (PySem.W.Frag → Bool) := hfa0 ++ hfa1 ++ hfa2 ++ hfa3 ++ hfa4
def hfnP0_0 : List DfX := [⟨fun K => He.ga K "is_integer", "is_integer", "is_integer", s_is_integer, []⟩, ⟨fun K => He.ga K "is_count", "is_count", "is_count", s_is_count, []⟩, ⟨fun K => He.ga K "is_name", "is_name", "is_name", s_is_name, []⟩, ⟨fun K => He.ma K (He.ga K "InvalidNumber") "__init__", "__init__", "InvalidNumber.__init__", s_InvalidNumber_init, []⟩, ⟨fun K => He.ma K (He.ga K "InvalidName") "__init__", "__init__", "InvalidName.__init__", s_InvalidName_init, []⟩, ⟨fun K => He.ma K (He.ga K "InvalidMoves") "__init__", "__init__", "InvalidMoves.__init__", s_InvalidMoves_init, []⟩, ⟨fun K => He.ma K (He.ga K "Ratio") "__init__", "__init__", "Ratio.__init__", s_Ratio_init, [.int 1]⟩, ⟨fun K => gsA K "Ratio" "of", "of", "Ratio.of", s_Ratio_of, []⟩, ⟨fun K => gpA K "Ratio" "top", "top", "Ratio.top", s_Ratio_top, []⟩, ⟨fun K => gpA K "Ratio" "bottom", "bottom", "Ratio.bottom", s_Ratio_bottom, []⟩, ⟨fun K => He.ma K (He.ga K "Ratio") "over", "over", "Ratio.over", s_Ratio_over, []⟩, ⟨fun K => He.ma K (He.ga K "Ratio") "__repr__", "__repr__", "Ratio.__repr__", s_Ratio_repr, []⟩, ⟨fun K => He.ga K "is_amount", "is_amount", "is_amount", s_is_amount, []⟩, ⟨fun K => He.ma K (He.ga K "Move") "__init__", "__init__", "Move.__init__", s_Move_init, []⟩, ⟨fun K => gpA K "Move" "task", "task", "Move.task", s_Move_task, []⟩, ⟨fun K => gpA K "Move" "start", "start", "Move.start", s_Move_start, []⟩, ⟨fun K => gpA K "Move" "goal", "goal", "Move.goal", s_Move_goal, []⟩, ⟨fun K => He.ma K (He.ga K "Move") "__repr__", "__repr__", "Move.__repr__", s_Move_repr, []⟩, ⟨fun K => He.ma K (He.ga K "Gift") "__init__", "__init__", "Gift.__init__", s_Gift_init, []⟩, ⟨fun K => gsA K "Gift" "single", "single", "Gift.single", s_Gift_single, []⟩]
def hfnP0_1 : List DfX := [⟨fun K => He.ga K "break_of", "break_of", "break_of", s_break_of, []⟩, ⟨fun K => He.ga K "check_gift_amount", "check_gift_amount", "check_gift_amount", s_check_gift_amount, []⟩, ⟨fun K => He.ga K "_law_pot", "_law_pot", "_law_pot", s_law_pot, []⟩, ⟨fun K => He.ga K "_law_draw", "_law_draw", "_law_draw", s_law_draw, []⟩, ⟨fun K => He.ga K "_law_pick", "_law_pick", "_law_pick", s_law_pick, []⟩, ⟨fun K => He.ga K "_law_named", "_law_named", "_law_named", s_law_named, []⟩, ⟨fun K => He.ga K "_law_met", "_law_met", "_law_met", s_law_met, []⟩, ⟨fun K => He.ga K "_law_odd_name", "_law_odd_name", "_law_odd_name", s_law_odd_name, []⟩, ⟨fun K => He.ga K "_law_odd_amount", "_law_odd_amount", "_law_odd_amount", s_law_odd_amount, []⟩, ⟨fun K => He.ga K "_law_words", "_law_words", "_law_words", s_law_words, []⟩, ⟨fun K => He.ga K "_law_is_named", "_law_is_named", "_law_is_named", s_law_is_named, []⟩, ⟨fun K => He.ga K "_law_due", "_law_due", "_law_due", s_law_due, []⟩, ⟨fun K => He.ga K "_law_broken", "_law_broken", "_law_broken", s_law_broken, []⟩, ⟨fun K => He.ga K "_law_right", "_law_right", "_law_right", s_law_right, []⟩, ⟨fun K => He.ga K "law", "law", "law", s_law, []⟩, ⟨fun K => He.ga K "_law_move_right", "_law_move_right", "_law_move_right", s_law_move_right, []⟩, ⟨fun K => He.ga K "_law_single_right", "_law_single_right", "_law_single_right", s_law_single_right, []⟩, ⟨fun K => He.ga K "_law_gift_right", "_law_gift_right", "_law_gift_right", s_law_gift_right, []⟩]
def hfnP0_ : List DfX := hfnP0_0 ++ hfnP0_1
def hfn : List DfX := hfnP0_
abbrev HR : PySem.W.OpenRow := PySem.W.OpenLaw.row PySem.Challenge.rw_evenloads_k15_moves_and_gifts_refused
abbrev hq : Program := PySem.W.view HR.prog [0, 40]
def hnames0 : List Str := ["_wall", "is_integer", "is_count", "is_name", "LoadError", "InvalidNumber", "InvalidName", "InvalidMoves", "LimitError", "DividedByZero", "Ratio", "written", "loosely_read", "is_plain_count", "is_amount", "Move", "Gift", "break_of", "check_gift_amount", "_law_pot", "_law_draw", "_law_pick", "_law_named", "_law_met", "_law_odd_name", "_law_odd_amount", "_law_words", "_law_is_named", "_law_due", "_law_move_right"]
def hnames1 : List Str := ["_law_single_right", "_law_broken", "_law_gift_right", "_law_right"]
def hnames : List Str := hnames0 ++ hnames1
def htb : List Str := ["_law_move_right", "_law_single_right", "_law_gift_right"]
def hobP0 (s : PySem.W.SharedT) : AlX × Bool := obsY hfa hfnP0_ htb (HandSHeadRun.getT s)
set_option maxHeartbeats 0 in
theorem hrunP0 (w : World) : HandSHeadRun.RunEqI HR hq (hookY hfa hfnP0_ htb) hobP0 16022 hnames w := by
  unfold HandSHeadRun.RunEqI
  kernel_rfl
def hob (s : PySem.W.SharedT) : AlX × Bool := obsY hfa hfn htb (HandSHeadRun.getT s)
theorem hob_eq (s : PySem.W.SharedT) : hob s = (hookY hfa hfn htb).obs s.abs := obsY_eq (HandSHeadRun.getT_eq s)
theorem hrun (w : World) : HandSHeadRun.RunEqI HR hq (hookY hfa hfn htb) hob 16022 hnames w := (hrunP0 w)
end Lw
namespace Ly
open PySem PySem.Spec PyProof.Rows L2
/-- where all stands -/
structure Wd where
  P : Program
  w : World
  K : PySem.W.Frag
  mg : Str → Option Value
  base : Heap
/-- a def of the module, without defaults, as it stands behind the top -/
structure GF (K : PySem.W.Frag) (mg : Str → Option Value) (x : Str) (st : Stmt) : Prop where
  ex : ∃ (f : Addr) (fd : FuncData), L2.Fun K x x st f fd ∧ mg x = some (.ref f)
/-- a def that may be called by its name -/
structure Cl (W : Wd) (k : Nat) (x : Str) (sp : Sp) : Prop where
  ex : ∃ (f : Addr) (fd : FuncData) (ps : List Str), FnOk W.P W.w W.K W.mg W.base CX0 k f fd ps sp ∧ W.mg x = some (.ref f) ∧ PySem.W.keepIn W.K (.ref f) = true ∧ Binds W.K fd ps []
theorem Cl.mono {W : Wd} {j k : Nat} {x : Str} {sp : Sp} (c : Cl W j x sp) (h : j ≤ k) : Cl W k x sp := by
  obtain ⟨f, fd, ps, F, a, b, d⟩ := c.ex
  exact ⟨f, fd, ps, F.mono h, a, b, d⟩
theorem Cl.imp {W : Wd} {k : Nat} {x : Str} {sp sp' : Sp} (c : Cl W k x sp) (h : ∀ vs H Q E, sp' vs H Q E → sp vs H Q E) : Cl W k x sp' := by
  obtain ⟨f, fd, ps, F, a, b, d⟩ := c.ex
  exact ⟨f, fd, ps, F.imp h, a, b, d⟩
theorem cl_of {W : Wd} {k : Nat} {x : Str} {st : Stmt} {N ps : List Str} {sp : Sp} (g : GF W.K W.mg x st) (S : FnScope N ps (defScope st))
    (hb : ∀ (kV doc pm : Value) (an : Option Addr) (cdv ct : Value) (us : List Value), us.length = ps.length → bindArgs (PySem.W.fnOf x x (defArgs st) (defBody st) (defScope st) .none kV doc pm an cdv ct) ⟨us, []⟩ = pure (ps.zip us))
    (len : ∀ vs H Q E, sp vs H Q E → vs.length = ps.length)
    (hbody : ∀ (f : Addr) (cdv : Value) (A : Around) (outer : List Env) (s : Shared) (H : Hp) (vs : List V) (Q : VK) (E : XK), Room k (A.deeper (envOfC x (defScope st) s.heap.objs.size f cdv)) → sp vs H Q E →
      ∃ t, PSs (cxOf CX0 W.P W.w W.K W.mg W.base N x (defScope st) f cdv A outer s H E).nox (defBody st) t ∧ t { nx := fun _ H' => Q .non H', rt := Q } (start N vs) H) : Cl W (k + 1) x sp := by
  obtain ⟨f, fd, F, hm⟩ := g.ex
  exact ⟨f, fd, ps, F.ok S len (fun cdv A outer s H vs Q E => hbody f cdv A outer s H vs Q E), hm, F.kp, F.binds hb⟩
section
variable {X : Cx} {k j : Nat} {x : Str} {sp : Sp} {p pos : Pos} {e : Expr} {es : List Expr} {t : TA}
theorem pe_cl (c : Cl ⟨X.prog, X.w, X.K, X.mg, X.base⟩ k x sp) (hr : Room j X.A) (hk : k ≤ j) (hg : Gl X x) (ha : PA X (e :: es) t)
    (hdb : (x == ("__debug__" : Str)) = false := by decide) (he : starEach (e :: es) X.env = (false, eval e X.env) :: starEach es X.env := by rfl) (hpl : (backTo pos (starEach es X.env)).any (·.1) = false := by rfl) :
    PE X (.Call (.Name x p) (e :: es) [] pos) (tCall sp [] E0 t) := by
  obtain ⟨f, fd, ps, F, hm, kp, b⟩ := c.ex
  exact pe_call F (hr.mono hk) hg hm kp b .nil pass0 ha hdb he hpl
end
section
variable {σ : L2.St} {H : Hp} {Q : VK} {K : PySem.W.Frag} {v x y : V} {ta tb te : TE} {t u : TA} {i j : Int} {D : Ends}
theorem i_var {n : Nat} (h : σ[n]? = some (some v)) (q : Q v H) : tVar n σ H Q := ⟨v, h, q⟩
theorem i_c (q : Q v H) : tC v σ H Q := q
theorem i_op {r : R2} (q : ta σ H fun x H1 => tb σ H1 fun y H2 => r x y H2 Q) : tOp r ta tb σ H Q := q
theorem i_un {r : V → Hp → VK → Prop} (q : ta σ H fun x H1 => r x H1 Q) : tUn r ta σ H Q := q
theorem i_I0 {g : Int → Int → V} (q : Q (g i j) H) : rI0 g (.int i) (.int j) H Q := ⟨i, j, rfl, rfl, q⟩
theorem i_I {C : Int → Int → Prop} {g : Int → Int → V} (c : C i j) (q : Q (g i j) H) : rI C g (.int i) (.int j) H Q := ⟨i, j, rfl, rfl, c, q⟩
theorem i_U {g : Int → V} (q : Q (g i) H) : rU g (.int i) H Q := ⟨i, rfl, q⟩
theorem i_nil {Q : List V → Hp → Prop} (q : Q [] H) : tNil σ H Q := q
theorem i_cons {Q : List V → Hp → Prop} (q : ta σ H fun x H1 => t σ H1 fun xs H2 => Q (x :: xs) H2) : tCons ta t σ H Q := q
theorem i_cb {r : List V → Hp → VK → Prop} (q : t σ H fun vs H1 => r vs H1 Q) : tCB r t σ H Q := q
theorem i_call {sp : Sp} {E : XK} (q : t σ H fun vs H1 => sp vs H1 Q E) : tCall sp [] E t σ H Q := by
  unfold tCall
  simpa only [List.append_nil] using q
theorem i_ret {te : TE} (q : te σ H D.rt) : tRet te D σ H := q
theorem i_seq {t u : TS} (q : t { D with nx := u D } σ H) : tSeq t u D σ H := q
theorem i_next (q : D.nx σ H) : tNext D σ H := q
theorem i_asg {g : TG} (q : te σ H fun x H1 => g x σ H1 D.nx) : tAsg te g D σ H := q
theorem i_gname {n : Nat} {Q : L2.St → Hp → Prop} (q : Q (σ.set n (some v)) H) : gName n v σ H Q := q
theorem i_if {c : TT} {t u : TS} (q : c σ H fun b H1 => if b = true then t D σ H1 else u D σ H1) : tIfS c t u D σ H := q
theorem i_dec {p A B : Prop} [Decidable p] (h1 : p → A) (h2 : ¬ p → B) : if decide p = true then A else B := by
  by_cases h : p
  · rw [if_pos (decide_eq_true h)]
    exact h1 h
  · rw [if_neg (by rw [decide_eq_false h]; exact Bool.false_ne_true)]
    exact h2 h
theorem i_start {t : TS} {σ' : L2.St} (e : σ = σ') (h : t D σ' H) : t D σ H := by
  rw [e]
  exact h
theorem i_test {te : TE} {Q : Bool → Hp → Prop} (q : te σ H fun x H1 => ∃ k, x = .bl k ∧ Q k H1) : tTest te σ H Q := q
theorem i_gsub {to ti : TE} {s : TSet} {Q : L2.St → Hp → Prop} (q : to σ H fun o H1 => ti σ H1 fun i H2 => s o i v H2 fun H3 => Q σ H3) : gSub to ti s v σ H Q := q
end
end Ly
namespace Ly
open PySem PySem.Spec PyProof.Rows L2
def rInt1 : List V → Hp → VK → Prop := fun xs H Q => (∃ i, xs = [.int i] ∧ Q (.int i) H) ∨ ∃ k, xs = [.bl k] ∧ Q (.int (if k then 1 else 0)) H
theorem call_int1U {X : Cx} : CallR X (.type "int") rInt1 := call_int1
theorem i_int {H : Hp} {Q : VK} {i : Int} (q : Q (.int i) H) : rInt1 [.int i] H Q := .inl ⟨i, rfl, q⟩
def rAbs : List V → Hp → VK → Prop := fun xs H Q => ∃ i, xs = [.int i] ∧ Q (.int (if i < 0 then -i else i)) H
theorem call_absU {X : Cx} : CallR X (.builtin "abs") rAbs := call_abs
theorem i_abs {H : Hp} {Q : VK} {i : Int} (q : Q (.int (if i < 0 then -i else i)) H) : rAbs [.int i] H Q := ⟨i, rfl, q⟩
def rMax2 : List V → Hp → VK → Prop := fun xs H Q => ∃ i j, xs = [.int i, .int j] ∧ Q (.int (if j > i then j else i)) H
theorem call_max2U {X : Cx} (hc : X.calm = true) : CallR X (.builtin "max") rMax2 := call_max2 hc
theorem i_max2 {H : Hp} {Q : VK} {i j : Int} (q : Q (.int (if j > i then j else i)) H) : rMax2 [.int i, .int j] H Q := ⟨i, j, rfl, q⟩
def rMin2 : List V → Hp → VK → Prop := fun xs H Q => ∃ i j, xs = [.int i, .int j] ∧ Q (.int (if j < i then j else i)) H
theorem call_min2U {X : Cx} (hc : X.calm = true) : CallR X (.builtin "min") rMin2 := call_min2 hc
theorem i_min2 {H : Hp} {Q : VK} {i j : Int} (q : Q (.int (if j < i then j else i)) H) : rMin2 [.int i, .int j] H Q := ⟨i, j, rfl, q⟩
def rLen (K : PySem.W.Frag) : List V → Hp → VK → Prop := fun xs H Q => ∃ x n, xs = [x] ∧ LenV K x H n ∧ Q (.int n) H
theorem call_lenU {X : Cx} : CallR X (.builtin "len") (rLen X.K) := call_len
theorem i_len_l {K : PySem.W.Frag} {H : Hp} {Q : VK} {p : Addr} {xs : List V} (h : H p = some (.lst xs)) (q : Q (.int xs.length) H) : rLen K [.ref p] H Q := ⟨_, xs.length, rfl, .inl ⟨xs, SqL.of h, rfl⟩, q⟩
theorem i_len_L {K : PySem.W.Frag} {H : Hp} {Q : VK} {p : Addr} {xs : List V} (h : SqL K H p xs) (q : Q (.int xs.length) H) : rLen K [.ref p] H Q := ⟨_, xs.length, rfl, .inl ⟨xs, h, rfl⟩, q⟩
theorem i_len_t {K : PySem.W.Frag} {H : Hp} {Q : VK} {p : Addr} {xs : List V} (h : H p = some (.tup xs)) (q : Q (.int xs.length) H) : rLen K [.ref p] H Q := ⟨_, xs.length, rfl, .inr ⟨xs, SqT.of h, rfl⟩, q⟩
theorem i_len_s {K : PySem.W.Frag} {H : Hp} {Q : VK} {x : Str} (h : x.length ≤ sizeLine) (q : Q (.int x.length) H) : rLen K [.str x] H Q := ⟨_, x.length, rfl, ⟨h, rfl⟩, q⟩
def rDivmod : List V → Hp → VK → Prop := fun xs H Q => ∃ i j, xs = [.int i, .int j] ∧ CDivP i j ∧ ∀ p, H p = none → Q (.ref p) (upd H p (.tup [.int (i / j), .int (i % j)]))
theorem call_divmodU {X : Cx} : CallR X (.builtin "divmod") rDivmod := call_divmodW
theorem i_divmod {H : Hp} {Q : VK} {i j : Int} (c : CDivP i j) (q : ∀ p, H p = none → Q (.ref p) (upd H p (.tup [.int (i / j), .int (i % j)]))) : rDivmod [.int i, .int j] H Q := ⟨i, j, rfl, c, q⟩
def rOr (r s : R2) : R2 := fun x y H Q => r x y H Q ∨ s x y H Q
section
variable {X : Cx} {f : Value → Value → Sem Value} {r s : R2}
theorem opr_or (h : OpR X f r) (h' : OpR X f s) : OpR X f (rOr r s) := fun pins sh σ H x y v u Q I rx ry q => by
  rcases q with q | q
  · exact h pins sh σ H x y v u Q I rx ry q
  · exact h' pins sh σ H x y v u Q I rx ry q
def rAddS : R2 := fun x y H Q => ∃ i j, x = .str i ∧ y = .str j ∧ i.length + j.length ≤ sizeLine ∧ Q (.str (i ++ j)) H
def rAddU : R2 := rOr (rI0 fun i j => .int (i + j)) (rOr rAddS rCat)
theorem op_addU : OpR X (binaryOp .Add) rAddU := opr_or op_add (opr_or op_add_str op_cat)
def rSubU : R2 := rI0 fun i j => .int (i - j)
theorem op_subU : OpR X (binaryOp .Sub) rSubU := op_sub
def rMulU : R2 := rOr (rI CMulW fun i j => .int (i * j)) rRep
theorem op_mulU : OpR X (binaryOp .Mult) rMulU := opr_or op_mulW op_rep
def rFdU : R2 := rI CDivW fun i j => .int (i / j)
theorem op_fdivU : OpR X (binaryOp .FloorDiv) rFdU := op_fdivW
def rMdU : R2 := rI (fun _ j => 0 < j) fun i j => .int (i % j)
theorem op_modU : OpR X (binaryOp .Mod) rMdU := op_mod
def rEqU (K : PySem.W.Frag) : R2 := rOr rEq (rEqD K)
def rNeU (K : PySem.W.Frag) : R2 := rOr rNe (rNeD K)
theorem op_eqU (hu : X.A.units + 64 < cLine) : OpR X (compareOp .Eq) (rEqU X.K) := opr_or op_eq (op_eqD hu)
theorem op_neU (hu : X.A.units + 64 < cLine) : OpR X (compareOp .NotEq) (rNeU X.K) := opr_or op_ne (op_neD hu)
theorem ix_U : IxR X (rIx X.K) := ix_seq
end
section
variable {σ : L2.St} {H : Hp} {Q : VK} {K : PySem.W.Frag} {v x y : V} {i j : Int}
theorem i_add_i (q : Q (.int (i + j)) H) : rAddU (.int i) (.int j) H Q := .inl ⟨i, j, rfl, rfl, q⟩
theorem i_add_s {a b : Str} (h : a.length + b.length ≤ sizeLine) (q : Q (.str (a ++ b)) H) : rAddU (.str a) (.str b) H Q := .inr (.inl ⟨a, b, rfl, rfl, h, q⟩)
theorem i_sub_i (q : Q (.int (i - j)) H) : rSubU (.int i) (.int j) H Q := ⟨i, j, rfl, rfl, q⟩
theorem i_mul_i (h : CMulW i j) (q : Q (.int (i * j)) H) : rMulU (.int i) (.int j) H Q := .inl ⟨i, j, rfl, rfl, h, q⟩
theorem i_fd_i (h : CDivW i j) (q : Q (.int (i / j)) H) : rFdU (.int i) (.int j) H Q := ⟨i, j, rfl, rfl, h, q⟩
theorem i_md_i (h : 0 < j) (q : Q (.int (i % j)) H) : rMdU (.int i) (.int j) H Q := ⟨i, j, rfl, rfl, h, q⟩
theorem i_eq_s (h : scal x y = true) (q : Q (.bl (decide (x = y))) H) : rEqU K x y H Q := .inl ⟨h, q⟩
theorem i_ne_s (h : scal x y = true) (q : Q (.bl (!decide (x = y))) H) : rNeU K x y H Q := .inl ⟨h, q⟩
theorem i_ix_l {p : Addr} {xs : List V} (h : H p = some (.lst xs)) (ha : atI xs i = some v) (q : Q v H) : rIx K (.ref p) (.int i) H Q := .inl ⟨p, xs, i, v, rfl, rfl, SqL.of h, ha, q⟩
theorem i_ix_L {p : Addr} {xs : List V} (h : SqL K H p xs) (ha : atI xs i = some v) (q : Q v H) : rIx K (.ref p) (.int i) H Q := .inl ⟨p, xs, i, v, rfl, rfl, h, ha, q⟩
theorem i_ix_t {p : Addr} {xs : List V} (h : H p = some (.tup xs)) (ha : atI xs i = some v) (q : Q v H) : rIx K (.ref p) (.int i) H Q := .inr (.inl ⟨p, xs, i, v, rfl, rfl, SqT.of h, ha, q⟩)
end
end Ly
namespace Ly
open PySem PySem.Spec PyProof.Rows L2
section
open PySem.W PySem.Calls
variable {X : Cx} {C f : Addr} {fd : FuncData} {ps : List Str} {sp : Sp} {k : Nat}
/-- a def run somewhere below the running body -/
theorem run_at {pins : List (Addr × Obj)} {σ : L2.St} {H : Hp} {s : Shared} {Q : VK} {us : List Value} {vs : List V} {A' : Around} {E' : Value → Shared → Prop} (F : FnOk X.prog X.w X.K X.mg X.base CX0 k f fd ps sp) (hr : Room k A') (hfr : A'.frames = X.A.frames) (hb : Binds X.K fd ps [])
    (I : Inv X pins σ H s) (r : Vals vs us) (h : sp vs H Q E0) : wpAny (model X.prog X.w) A' (call (.ref f) us) (EP X pins σ Q) E' s := by
  have e0 : Env0 X.prog X.w X.K X.mg X.base A' X.stack s H := by
    have e := I.env0
    exact ⟨by rw [hfr]; exact e.frames, e.mod, e.bs, e.bsz, e.funs, e.frf, e.hok, e.bare⟩
  have hl : (us ++ []).length = ps.length := by
    rw [List.append_nil, ← r.length]
    exact F.len _ _ _ _ h
  refine wpAny_call (codeAny_mono (F.run A' X.stack s H ⟨us, []⟩ us vs Q E0 hr e0 (by
    have z := hb s us I.kIn hl
    rw [List.append_nil] at z
    exact z) r h) fun r s' hq => ?_)
  cases r with
  | error e => exact False.elim hq
  | ok fl =>
    cases fl with
    | ret u => exact I.after hq
    | next => exact False.elim hq
    | brk => exact False.elim hq
    | cont => exact False.elim hq
def rSOwn (C : Addr) (sp : Sp) : List V → Hp → VK → Prop := fun xs H Q => ∃ a dx fs, xs = [.ref a] ∧ H a = some (.ins C dx fs) ∧ sp [.ref a] H (fun v H' => (∃ z, v = .str z) ∧ Q v H') E0
end
end Ly
namespace Ly
open PySem PySem.Spec PyProof.Rows L2
/-- C.m is a static method: its record at p, its def at g -/
structure SMet (K : PySem.W.Frag) (C : Addr) (mc : Value) (m : Str) (p g : Addr) : Prop where
  at_ : PySem.W.findCls K (.ref C) mc m = some (.get (.builtin "staticmethod.__get__") (.ref p) .none (.ref C))
  rc : ∃ rest, PySem.W.recIn K p "staticmethod" = some (.ref g :: rest)
  kp : PySem.W.keepIn K (.ref g) = true
def tSMeth (C : Addr) (sp : Sp) (dvs : List V) (ta : TE) (t : TA) : TE := fun σ H Q => ta σ H fun x H1 => x = .ref C ∧ t σ H1 fun vs H2 => sp (vs ++ dvs) H2 Q E0
section
variable {X : Cx} {k : Nat} {C p g : Addr} {mc : Value} {fd : FuncData} {ps ks : List Str} {sp : Sp} {o e : Expr} {es : List Expr} {kws : List Keyword} {m : Str} {pos apos : Pos} {ta : TE} {t tk : TA} {pl : Sem Bool} {dvs : List V} {ds : List Value} {gv : List Value → List Value → List Value} {gV : List V → List V → List V}
theorem getsm_ok {pins : List (Addr × Obj)} {σ : L2.St} {H : Hp} {s : Shared} {A : Around} {E : Value → Shared → Prop} {Q : Value × List Value → Shared → Prop} (I : Inv X pins σ H s) (r : ClX.CRead X.K C mc) (c : SMet X.K C mc m p g)
    (h : ∀ s', Inv X pins σ H s' → Q (.ref g, []) s') : wpAny (model X.prog X.w) A (getMethod (.ref C) m pl) Q E s := by
  obtain ⟨rest, hp⟩ := c.rc
  refine PySem.W.method_cls I.kIn r.ga (PySem.W.cls_bind I.kIn r.rd c.at_ (wpAny_call (PySem.W.sm_get (s := { s with toks := s.toks + 1 }) I.kIn hp (PySem.W.handed_on rfl ?_))))
  exact h _ (I.tok _)
theorem pe_smeth (he : PE X o ta) (r : ClX.CRead X.K C mc) (c : SMet X.K C mc m p g) (F : FnOk X.prog X.w X.K X.mg X.base CX0 k g fd ps sp) (hr : Room k X.A) (hb : Binds X.K fd ps ds) (hd : Vals dvs ds) (ha : PA X (e :: es) t)
    (hst : starEach (e :: es) X.env = (false, eval e X.env) :: starEach es X.env := by rfl) (hpl : (backTo pos (starEach es X.env)).any (·.1) = false := by rfl)
    (ht : eval (.Call (.Attribute o m apos) (e :: es) [] pos) X.env = (do
      let ov ← eval o X.env
      standAt apos.atName
      let (f, first) ← holding [ov] (getMethod ov m pl)
      callWith pos f first (backTo pos (starEach (e :: es) X.env)) (backToKw pos (keywordEach [] X.env))) := by rfl) :
    PE X (.Call (.Attribute o m apos) (e :: es) [] pos) (tSMeth C sp dvs ta t) := by
  refine ⟨fun pins s σ H Q I h => ?_⟩
  refine PySem.W.methodCall_KW (pl := pl) (thn (he.run pins s σ H _ I h) fun u s1 ⟨x, H1, I1, rx, ex, q⟩ => ?_) ht
  subst ex
  obtain rfl : u = Value.ref C := rx
  refine getsm_ok I1 r c fun s2 I2 => ?_
  refine PySem.W.callWith_K (h₀ := X.base) I.ok.mod.kin c.kp (thn (ha.run pos pins s2 σ H1 _ I2 q) fun us s3 ⟨vs, H2, I3, rv, q2⟩ => ⟨I3.kIn, ?_⟩) hst hpl
  exact run_fn F hr hb hd pass0 I3 rv q2
/-- C.m(k = v, ..), a static method -/
def tSMethK0 (C : Addr) (m : Nat) (sp : Sp) (gV : List V → List V → List V) (ta : TE) (tk : TA) : TE := fun σ H Q => ta σ H fun x H1 => x = .ref C ∧ tk σ H1 fun zs H2 => zs.length = m ∧ sp (gV [] zs) H2 Q E0
/-- o.m(k = v, ..) of an instance -/
def tMethK0 (C : Addr) (m : Str) (n : Nat) (sp : Sp) (gV : List V → List V → List V) (ta : TE) (tk : TA) : TE := fun σ H Q => ta σ H fun x H1 => ∃ a dx fs, x = .ref a ∧ H1 a = some (.ins C dx fs) ∧ fs.lookup m = none ∧ tk σ H1 fun zs H2 => zs.length = n ∧ sp (gV [x] zs) H2 Q E0
end
end Ly
namespace Ly
open PySem PySem.Spec PyProof.Rows L2
section
open PySem.W
variable {X : Cx} {C f : Addr} {fd : FuncData} {ps : List Str} {sp : Sp} {k : Nat} {op : Operator}
/-- the class's mro is itself and object -/
def mro2 (K : PySem.W.Frag) (C : Addr) : Bool := (clsIn K C).any fun cd => cd.mro == [.ref C, .type "object"]
theorem mro2_of {K : PySem.W.Frag} {C : Addr} (h : mro2 K C = true) : ∃ cd, clsIn K C = some cd ∧ cd.mro = [.ref C, .type "object"] := by
  obtain ⟨cd, h1, h2⟩ := any_some h
  exact ⟨cd, h1, by simpa using h2⟩
end
end Ly
namespace Ly
open PySem PySem.Spec PyProof.Rows L2
structure GM (K : PySem.W.Frag) (C : Addr) (m qual : Str) (st : Stmt) : Prop where
  ex : ∃ (f : Addr) (fd : FuncData), L2.Fun K m qual st f fd ∧ Meth K C m f
structure GS (K : PySem.W.Frag) (C : Addr) (m qual : Str) (st : Stmt) : Prop where
  ex : ∃ (p g : Addr) (fd : FuncData) (mc : Value), L2.Fun K m qual st g fd ∧ SMet K C mc m p g ∧ ClX.CRead K C mc
structure GP (K : PySem.W.Frag) (C : Addr) (m qual : Str) (st : Stmt) : Prop where
  ex : ∃ (p g : Addr) (fd : FuncData), L2.Fun K m qual st g fd ∧ PropOf K C m p g
structure GI (K : PySem.W.Frag) (C : Addr) (qual : Str) (st : Stmt) (dvs : List V) : Prop where
  ex : ∃ (f : Addr) (fd : FuncData), FunD K "__init__" qual (defArgs st) (defBody st) (defScope st) dvs [] f fd ∧ Mk K C f
structure OwnC (K : PySem.W.Frag) (mg : Str → Option Value) (x : Str) (C : Addr) : Prop where
  mg : mg x = some (.ref C)
  cls : Cls K C
  kp : PySem.W.keepIn K (.ref C) = true
  sf : PySem.W.selfFirst K C = true
  m2 : mro2 K C = true
  sI : PySem.W.subIn K (.type "int") (.ref C) = some false
  sI' : PySem.W.subIn K (.ref C) (.type "int") = some false
  sO : PySem.W.subIn K (.ref C) (.type "object") = some true
  nI : PySem.W.notFirst K C (.type "int") = true
  kO : PySem.W.kitOne K (.ref C) (.ref C) = some true
  kI : PySem.W.kitOne K (.type "int") (.ref C) = some false
  cl : PySem.W.findIn K (.ref C) "__class__" = some (some (.builtin "object.__class__"))
  mo : PySem.W.mroIn K C (.type "object") = some true
structure Sm (W : Wd) (k : Nat) (C : Addr) (m : Str) (sp : Sp) : Prop where
  ex : ∃ (p g : Addr) (fd : FuncData) (ps : List Str) (mc : Value), ClX.CRead W.K C mc ∧ SMet W.K C mc m p g ∧ FnOk W.P W.w W.K W.mg W.base CX0 k g fd ps sp ∧ Binds W.K fd ps []
structure Pp (W : Wd) (k : Nat) (C : Addr) (m : Str) (sp : Sp) : Prop where
  ex : ∃ (p g : Addr) (fd : FuncData) (ps : List Str), PropOf W.K C m p g ∧ FnOk W.P W.w W.K W.mg W.base CX0 k g fd ps sp ∧ Binds W.K fd ps []
/-- a class whose instances are made by position, dvs the defaults that fill up -/
structure Mak (W : Wd) (k : Nat) (x : Str) (C : Addr) (sp : Sp) (dvs : List V) : Prop where
  ex : ∃ (f : Addr) (fd : FuncData) (ps : List Str) (ds : List Value), Mk W.K C f ∧ FnOk W.P W.w W.K W.mg W.base CX0 k f fd ps sp ∧ W.mg x = some (.ref C) ∧ Binds W.K fd ps ds ∧ Vals dvs ds
/-- a body as cl_of and its kin want it -/
def BodyOk (W : Wd) (k : Nat) (N : List Str) (qual : Str) (st : Stmt) (sp : Sp) : Prop :=
  ∀ (f : Addr) (cdv : Value) (A : Around) (outer : List Env) (s : Shared) (H : Hp) (vs : List V) (Q : VK) (E : XK), Room k (A.deeper (envOfC qual (defScope st) s.heap.objs.size f cdv)) → sp vs H Q E →
      ∃ t, PSs (cxOf CX0 W.P W.w W.K W.mg W.base N qual (defScope st) f cdv A outer s H E).nox (defBody st) t ∧ t { nx := fun _ H' => Q .non H', rt := Q } (start N vs) H
def BindOk (m qual : Str) (st : Stmt) (ps : List Str) : Prop :=
  ∀ (kV doc pm : Value) (an : Option Addr) (cdv ct : Value) (us : List Value), us.length = ps.length → bindArgs (PySem.W.fnOf m qual (defArgs st) (defBody st) (defScope st) .none kV doc pm an cdv ct) ⟨us, []⟩ = pure (ps.zip us)
section
variable {W : Wd} {k : Nat} {C : Addr} {m qual : Str} {st : Stmt} {N ps ks : List Str} {n : Nat} {sp : Sp}
theorem cl_of' {x : Str} (g : GF W.K W.mg x st) (S : FnScope N ps (defScope st)) (hb : BindOk x x st ps) (len : ∀ vs H Q E, sp vs H Q E → vs.length = ps.length) (hbody : BodyOk W k N x st sp) : Cl W (k + 1) x sp := cl_of g S hb len hbody
theorem sm_of (g : GS W.K C m qual st) (S : FnScope N ps (defScope st)) (hb : BindOk m qual st ps) (len : ∀ vs H Q E, sp vs H Q E → vs.length = ps.length) (hbody : BodyOk W k N qual st sp) : Sm W (k + 1) C m sp := by
  obtain ⟨p, f, fd, mc, F, hm, hr⟩ := g.ex
  exact ⟨p, f, fd, ps, mc, hr, hm, F.ok S len (fun cdv A outer s H vs Q E => hbody f cdv A outer s H vs Q E), F.binds hb⟩
theorem pp_of (g : GP W.K C m qual st) (S : FnScope N ps (defScope st)) (hb : BindOk m qual st ps) (len : ∀ vs H Q E, sp vs H Q E → vs.length = ps.length) (hbody : BodyOk W k N qual st sp) : Pp W (k + 1) C m sp := by
  obtain ⟨p, f, fd, F, hm⟩ := g.ex
  exact ⟨p, f, fd, ps, hm, F.ok S len (fun cdv A outer s H vs Q E => hbody f cdv A outer s H vs Q E), F.binds hb⟩
end
section
variable {X : Cx} {k j : Nat} {C : Addr} {x m : Str} {sp : Sp} {p pos apos : Pos} {o e : Expr} {es : List Expr} {kws : List Keyword} {ta : TE} {t tk : TA} {dvs : List V} {pl : Sem Bool} {ks : List Str}
theorem pe_sm (h : Sm ⟨X.prog, X.w, X.K, X.mg, X.base⟩ k C m sp) (hr : Room j X.A) (hk : k ≤ j) (he : PE X o ta) (ha : PA X (e :: es) t)
    (hst : starEach (e :: es) X.env = (false, eval e X.env) :: starEach es X.env := by rfl) (hpl : (backTo pos (starEach es X.env)).any (·.1) = false := by rfl)
    (ht : eval (.Call (.Attribute o m apos) (e :: es) [] pos) X.env = (do
      let ov ← eval o X.env
      standAt apos.atName
      let (f, first) ← holding [ov] (getMethod ov m pl)
      callWith pos f first (backTo pos (starEach (e :: es) X.env)) (backToKw pos (keywordEach [] X.env))) := by rfl) :
    PE X (.Call (.Attribute o m apos) (e :: es) [] pos) (tSMeth C sp [] ta t) := by
  obtain ⟨p, g, fd, ps, mc, r, c, F, b⟩ := h.ex
  exact pe_smeth (pl := pl) he r c F (hr.mono hk) b .nil ha hst hpl ht
theorem pe_pp (c : Cls X.K C) (h : Pp ⟨X.prog, X.w, X.K, X.mg, X.base⟩ k C m sp) (hr : Room j X.A) (hk : k + 1 ≤ j) (he : PE X e ta) (hab : attributeBase e m X.env (eval e X.env) = eval e X.env) : PE X (.Attribute e m pos) (tProp C sp [] E0 ta) := by
  obtain ⟨p, g, fd, ps, hp, F, b⟩ := h.ex
  exact pe_prop he c hp F (hr.mono hk) b .nil pass0 hab
theorem pe_mak (h : Mak ⟨X.prog, X.w, X.K, X.mg, X.base⟩ k x C sp dvs) (hr : Room j X.A) (hk : k + 1 ≤ j) (hg : Gl X x) (ha : PA X (e :: es) t)
    (hdb : (x == ("__debug__" : Str)) = false := by decide) (he : starEach (e :: es) X.env = (false, eval e X.env) :: starEach es X.env := by rfl) (hpl : (backTo pos (starEach es X.env)).any (·.1) = false := by rfl) :
    PE X (.Call (.Name x p) (e :: es) [] pos) (tMake C sp dvs E0 t) := by
  obtain ⟨f, fd, ps, ds, M, F, hm, b, d⟩ := h.ex
  exact pe_make M F (hr.mono hk) hg hm b d pass0 ha hdb he hpl
/-- a class's or another constant's name -/
theorem pe_gn {v : V} {u : Value} (hg : Gl X x) (hm : X.mg x = some u) (r : RelV v u) (hd : (x == ("__debug__" : Str)) = false := by decide) : PE X (.Name x pos) (tC v) := pe_glob hg hm r hd
end
end Ly
namespace Ly
open PySem PySem.Spec PyProof.Rows L2
section
variable {K : PySem.W.Frag} {h : Heap} {mg : Str → Option Value} {f g p C : Addr} {oc kV doc pm cdv ct dV : Value} {od an : Option Addr} {osl : Array (Option Value)} {x m qual : Str} {st : Stmt}
theorem kO_mk : PySem.W.kitOne K (.ref C) (.ref C) = some true := by
  unfold PySem.W.kitOne
  rw [if_pos]
  exact beq_self_eq_true _
theorem kI_mk {cd : ClassData} (h : PySem.W.clsIn K C = some cd) (t : PySem.W.typeIn K (.ref C) = some (.type "type")) (s : PySem.W.subIn K (.type "int") (.ref C) = some false) : PySem.W.kitOne K (.type "int") (.ref C) = some false := by
  unfold PySem.W.kitOne
  rw [if_neg (by intro z; cases eq_of_beq z)]
  unfold PySem.W.kitCls
  simp only
  rw [h, t, s]
  rfl
end
end Ly
namespace Ly
open PySem PySem.Spec PyProof.Rows L2
section
variable {K : PySem.W.Frag} {f C : Addr} {oc kV doc pm cdv ct : Value} {od an : Option Addr} {osl : Array (Option Value)} {qual : Str} {st : Stmt}
theorem kT_mk {T : String} {cd : ClassData} (h : PySem.W.clsIn K C = some cd) (t : PySem.W.typeIn K (.ref C) = some (.type "type")) (s : PySem.W.subIn K (.type T) (.ref C) = some false) : PySem.W.kitOne K (.type T) (.ref C) = some false := by
  unfold PySem.W.kitOne
  rw [if_neg (by intro z; cases eq_of_beq z)]
  unfold PySem.W.kitCls
  simp only
  rw [h, t, s]
  rfl
end
end Ly
namespace Ly
open PySem PySem.Spec PyProof.Rows L2
end Ly
namespace Ly
def G (t b : Int) : Int := (Int.gcd t b : Int)
/-- top and bottom in lowest terms, the bottom above 0 -/
def Nu (t b : Int) : Int := if 0 < b then t / G t b else (-t) / G t b
def De (t b : Int) : Int := if 0 < b then b / G t b else (-b) / G t b
structure Lo (t b : Int) : Prop where
  pos : 0 < b
  one : Int.gcd t b = 1
theorem G_pos {t b : Int} (h : b ≠ 0) : 0 < G t b := by
  unfold G
  have := Int.gcd_pos_of_ne_zero_right t h
  omega
theorem G_dl (t b : Int) : G t b ∣ t := Int.gcd_dvd_left ..
theorem G_dr (t b : Int) : G t b ∣ b := Int.gcd_dvd_right ..
theorem fdiv_exact {x g : Int} (hg : 0 < g) (h : g ∣ x) : x.fdiv g = x / g := Int.fdiv_eq_ediv_of_nonneg x (by omega)
theorem fdiv_exact_neg {x g : Int} (hg : 0 < g) (h : g ∣ x) : x.fdiv (-g) = (-x) / g := by
  obtain ⟨q, rfl⟩ := h
  have e1 : (g * q).fdiv (-g) = -q := by
    rw [show g * q = (-g) * (-q) by rw [Int.neg_mul_neg]]
    exact Int.mul_fdiv_cancel_left (-q) (by omega)
  rw [e1, show -(g * q) = g * (-q) by rw [Int.mul_neg]]
  exact (Int.mul_ediv_cancel_left (-q) (by omega)).symm
/-- what Ratio's constructor works out -/
theorem nu_of {t b : Int} (h : b ≠ 0) : t.fdiv (if 0 < b then G t b else -G t b) = Nu t b := by
  unfold Nu
  split
  · exact fdiv_exact (G_pos h) (G_dl t b)
  · exact fdiv_exact_neg (G_pos h) (G_dl t b)
theorem de_of {t b : Int} (h : b ≠ 0) : b.fdiv (if 0 < b then G t b else -G t b) = De t b := by
  unfold De
  split
  · exact fdiv_exact (G_pos h) (G_dr t b)
  · exact fdiv_exact_neg (G_pos h) (G_dr t b)
theorem lo_int (i : Int) : Lo i 1 := ⟨by decide, by simp⟩
theorem g_le (t b : Int) (h : b ≠ 0) : (G t b).natAbs ≤ b.natAbs := by
  have := Int.le_of_dvd (show (0 : Int) < b.natAbs by omega) (show G t b ∣ (b.natAbs : Int) from by
    rw [Int.dvd_natAbs]
    exact G_dr t b)
  have := G_pos (t := t) h
  omega
end Ly
namespace Ly
open PySem PySem.Spec PyProof.Rows L2
section
variable {σ : L2.St} {H H' : Hp} {Q : VK} {K : PySem.W.Frag} {v x y : V} {ta tb te : TE} {t u : TA} {i j : Int} {D : Ends} {C : Addr} {sp : Sp} {m : Str}
theorem i_drop (q : te σ H fun _ H1 => D.nx σ H1) : tDrop te D σ H := q
theorem i_not {tt : TT} {Q : Bool → Hp → Prop} (q : tt σ H fun c H1 => Q (!c) H1) : tNot tt σ H Q := q
theorem i_or {tt uu : TT} {Q : Bool → Hp → Prop} (q : tt σ H fun c H1 => if c = true then Q true H1 else uu σ H1 Q) : tOr tt uu σ H Q := q
theorem i_and {tt uu : TT} {Q : Bool → Hp → Prop} (q : tt σ H fun c H1 => if c = true then uu σ H1 Q else Q false H1) : tAnd tt uu σ H Q := q
theorem i_tb {Q : Bool → Hp → Prop} (q : te σ H fun x H1 => ∃ c, x = .bl c ∧ Q c H1) : tB te σ H Q := q
theorem i_andV (q : ta σ H fun x H1 => ∃ c, x = .bl c ∧ if c = true then tb σ H1 Q else Q (.bl false) H1) : tAndV ta tb σ H Q := q
theorem i_orV (q : ta σ H fun x H1 => ∃ c, x = .bl c ∧ if c = true then Q (.bl true) H1 else tb σ H1 Q) : tOrV ta tb σ H Q := q
theorem i_notV (q : ta σ H fun x H1 => ∃ c, x = .bl c ∧ Q (.bl (!c)) H1) : tNotV ta σ H Q := q
theorem i_ifx {tt : TT} (q : tt σ H fun c H1 => if c = true then ta σ H1 Q else tb σ H1 Q) : tIf tt ta tb σ H Q := q
theorem i_ext {P : Bool → Prop} (h : P true) : ∃ c, V.bl true = V.bl c ∧ P c := ⟨true, rfl, h⟩
theorem i_exf {P : Bool → Prop} (h : P false) : ∃ c, V.bl false = V.bl c ∧ P c := ⟨false, rfl, h⟩
theorem i_exn {b : Bool} {P : Bool → Prop} (h : P b) : ∃ c, V.bl b = V.bl c ∧ P c := ⟨b, rfl, h⟩
theorem i_itt {A B : Prop} (h : A) : if true = true then A else B := iteT h
theorem i_itf {A B : Prop} (h : B) : if false = true then A else B := iteF h
theorem i_nt {A B : Prop} (h : B) : if (!true) = true then A else B := iteF h
theorem i_nf {A B : Prop} (h : A) : if (!false) = true then A else B := iteT h
theorem i_gcd {a b : Int} (q : Q (.int (G a b)) H) : rGcd [.int a, .int b] H Q := ⟨a, b, rfl, q⟩
def rFld (K : PySem.W.Frag) (f : Str) : V → Hp → VK → Prop := fun x H1 Q => ∃ a C dx fs v, x = .ref a ∧ H1 a = some (.ins C dx fs) ∧ Cls K C ∧ NoAttr K C f ∧ fs.lookup f = some v ∧ Q v H1
theorem i_fld {f : Str} (q : ta σ H fun x H1 => rFld K f x H1 Q) : tFld K ta f σ H Q := q
def rSFld (K : PySem.W.Frag) (f : Str) (y x : V) (H2 : Hp) (q : Hp → Prop) : Prop := ∃ a C dx fs, x = .ref a ∧ H2 a = some (.ins C dx fs) ∧ Cls K C ∧ NoAttr K C f ∧ fs.length < 1000 ∧ q (upd H2 a (.ins C dx (putF f y fs)))
theorem i_sfld {f : Str} (q : tb σ H fun y H1 => ta σ H1 fun x H2 => rSFld K f y x H2 (D.nx σ)) : sFld K ta tb f D σ H := q
def rPp (C : Addr) (sp : Sp) : V → Hp → VK → Prop := fun x H1 Q => ∃ a dx fs, x = .ref a ∧ H1 a = some (.ins C dx fs) ∧ sp [.ref a] H1 Q E0
theorem i_pp (q : ta σ H fun x H1 => rPp C sp x H1 Q) : tProp C sp [] E0 ta σ H Q := q
def rMeth (C : Addr) (m : Str) (σ : L2.St) (t : TA) (sp : Sp) : V → Hp → VK → Prop := fun x H1 Q => ∃ a dx fs, x = .ref a ∧ H1 a = some (.ins C dx fs) ∧ fs.lookup m = none ∧ t σ H1 fun vs H2 => sp (x :: vs) H2 Q E0
theorem i_meth (q : ta σ H fun x H1 => rMeth C m σ t sp x H1 Q) : tMeth C m sp [] E0 ta t σ H Q := by
  have e : (fun (x : V) (H1 : Hp) => rMeth C m σ t sp x H1 Q) = fun x H1 => ∃ a dx fs, x = .ref a ∧ H1 a = some (.ins C dx fs) ∧ fs.lookup m = none ∧ t σ H1 fun vs H2 => sp (x :: (vs ++ [])) H2 Q E0 := by
    funext x H1
    simp only [rMeth, List.append_nil]
  rw [e] at q
  exact q
theorem i_smeth (q : t σ H fun vs H2 => sp vs H2 Q E0) : tSMeth C sp [] (tC (.ref C)) t σ H Q := by
  refine ⟨rfl, ?_⟩
  simpa only [List.append_nil] using q
def rMake (C : Addr) (sp : Sp) (dvs : List V) : List V → Hp → VK → Prop := fun vs H1 Q => ∀ x dx, H1 x = none → H1 dx = none → dx ≠ x → sp (.ref x :: (vs ++ dvs)) (upd (upd H1 dx (.own x)) x (.ins C dx [])) (fun v H2 => v = .non ∧ Q (.ref x) H2) E0
theorem i_make {dvs : List V} (q : t σ H fun vs H1 => rMake C sp dvs vs H1 Q) : tMake C sp dvs E0 t σ H Q := q
def rPar (n k : Nat) (σ : L2.St) (nx : L2.St → Hp → Prop) : List V → Hp → Prop := fun vs H1 => ∃ v w, vs = [v, w] ∧ nx ((σ.set n (some v)).set k (some w)) H1
theorem i_tpar {n k : Nat} (q : t σ H fun vs H1 => rPar n k σ D.nx vs H1) : tPar n k t D σ H := q
theorem i_rpar {n k : Nat} {nx : L2.St → Hp → Prop} {v w : V} (q : nx ((σ.set n (some v)).set k (some w)) H) : rPar n k σ nx [v, w] H := ⟨v, w, rfl, q⟩
theorem i_isi {T n : String} {b : Bool} (ty : TyX K H x (.type T)) (k : kitB T n = some b) (q : Q (.bl b) H) : rIsi K [x, .ty n] H Q := ⟨x, .ty n, .type T, .type n, b, rfl, .ty n, ty, kit_ty k, q⟩
theorem i_isiO {tv : Value} {b : Bool} (ty : TyX K H x tv) (k : PySem.W.kitOne K tv (.ref C) = some b) (q : Q (.bl b) H) : rIsi K [x, .ref C] H Q := ⟨x, .ref C, tv, .ref C, b, rfl, .own C, ty, k, q⟩
end
/-- // by a divisor of either sign, below 2 ^ 9000 -/
def CDivX (_ j : Int) : Prop := j ≠ 0 ∧ j.natAbs.log2 < 9000
theorem op_fdivX {X : Cx} : OpR X (binaryOp .FloorDiv) (rI CDivX fun i j => .int (i.fdiv j)) := opI fun _ _ _ _ _ _ _ hc q => floordiv_int hc.1 q (.inl (PyProof.noPylong_of_log2 hc.2))
theorem cdivx {i j : Int} (h : j ≠ 0) {b : Nat} (hb : j.natAbs < 2 ^ b) (h0 : 0 < b) (h9 : b ≤ 9000) : CDivX i j := ⟨h, Nat.lt_of_lt_of_le (PySem.Flt.log2_lt_of h0 hb) h9⟩
def flds (t b : Int) : List (Str × V) := [("_top", .int t), ("_bottom", .int b)]
def RatAt (C : Addr) (H : Hp) (a : Addr) (t b : Int) : Prop := ∃ dx, H a = some (.ins C dx (flds t b))
theorem RatAt.same {C : Addr} {H H' : Hp} {a : Addr} {t b : Int} (s : Same H H') (r : RatAt C H a t b) : RatAt C H' a t b := by
  obtain ⟨dx, e⟩ := r
  exact ⟨dx, s _ _ e⟩
/-- a number: an int, or a Ratio -/
def Num (C : Addr) (H : Hp) (v : V) (t b : Int) : Prop := (v = .int t ∧ b = 1) ∨ ∃ a, v = .ref a ∧ RatAt C H a t b
theorem Num.same {C : Addr} {H H' : Hp} {v : V} {t b : Int} (s : Same H H') (r : Num C H v t b) : Num C H' v t b := by
  rcases r with r | ⟨a, e, r⟩
  · exact .inl r
  · exact .inr ⟨a, e, r.same s⟩
theorem bot_top : ¬ (("_bottom" : Str) = "_top") := by decide +kernel
theorem flds_top (t b : Int) : (flds t b).lookup ("_top" : Str) = some (.int t) := by
  unfold flds
  simp [List.lookup]
theorem flds_bot (t b : Int) : (flds t b).lookup ("_bottom" : Str) = some (.int b) := by
  have e : (("_bottom" : Str) == ("_top" : Str)) = false := by simpa using bot_top
  unfold flds
  simp [List.lookup, e]
theorem flds_no (t b : Int) {m : Str} (h1 : ¬ m = "_top") (h2 : ¬ m = "_bottom") : (flds t b).lookup m = none := by
  have e1 : (m == ("_top" : Str)) = false := by simpa using h1
  have e2 : (m == ("_bottom" : Str)) = false := by simpa using h2
  unfold flds
  simp [List.lookup, e1, e2]
section
variable {C a : Addr} {H : Hp} {Q : VK} {K : PySem.W.Frag} {t b : Int} {v : V}
theorem i_rtop (r : RatAt C H a t b) (c : Cls K C) (n : NoAttr K C "_top") (q : Q (.int t) H) : rFld K "_top" (.ref a) H Q := by
  obtain ⟨dx, e⟩ := r
  exact ⟨a, C, dx, _, _, rfl, e, c, n, flds_top t b, q⟩
theorem i_rbot (r : RatAt C H a t b) (c : Cls K C) (n : NoAttr K C "_bottom") (q : Q (.int b) H) : rFld K "_bottom" (.ref a) H Q := by
  obtain ⟨dx, e⟩ := r
  exact ⟨a, C, dx, _, _, rfl, e, c, n, flds_bot t b, q⟩
theorem i_rpp {sp : Sp} (r : RatAt C H a t b) (q : sp [.ref a] H Q E0) : rPp C sp (.ref a) H Q := by
  obtain ⟨dx, e⟩ := r
  exact ⟨a, dx, _, rfl, e, q⟩
theorem i_rmeth {m : Str} {σ : L2.St} {tt : TA} {sp : Sp} (r : RatAt C H a t b) (h1 : ¬ m = "_top") (h2 : ¬ m = "_bottom") (q : tt σ H fun vs H2 => sp (.ref a :: vs) H2 Q E0) : rMeth C m σ tt sp (.ref a) H Q := by
  obtain ⟨dx, e⟩ := r
  exact ⟨a, dx, _, rfl, e, flds_no t b h1 h2, q⟩
end
def Sz (n : Nat) (x : Int) : Prop := x.natAbs < 2 ^ n
theorem sz_mono {n m : Nat} {x : Int} (h : Sz n x) (k : n ≤ m) : Sz m x := Nat.lt_of_lt_of_le h (Nat.pow_le_pow_right (by decide) k)
theorem sz_le {n : Nat} {x y : Int} (h : Sz n x) (k : y.natAbs ≤ x.natAbs) : Sz n y := Nat.lt_of_le_of_lt k h
theorem sz_mul {n m : Nat} {x y : Int} (h : Sz n x) (k : Sz m y) : Sz (n + m) (x * y) := wide_lt h k
theorem sz_neg {n : Nat} {x : Int} (h : Sz n x) : Sz n (-x) := by
  unfold Sz at *
  omega
theorem cmul_sz {n m : Nat} {x y : Int} (h : Sz n x) (k : Sz m y) (h0 : 0 < n := by decide) (h1 : 0 < m := by decide) (h2 : n + m ≤ 1000000 := by decide) : CMulW x y := wide_mul h k h0 h1 h2
theorem sz_1 {n : Nat} (h : 0 < n := by decide) : Sz n 1 := Nat.one_lt_two_pow (by omega)
section
variable {H : Hp} {Q : VK} {E : XK} {C : Addr} {i : Int}
def spIsInt : Sp := fun vs H Q _ => ∃ i : Int, vs = [.int i] ∧ Q (.bl true) H
theorem i_isint (q : Q (.bl true) H) : spIsInt [.int i] H Q E := ⟨i, rfl, q⟩
def spTop (C : Addr) : Sp := fun vs H Q _ => ∃ (x : Addr) (t b : Int), vs = [.ref x] ∧ RatAt C H x t b ∧ Q (.int t) H
theorem i_top {x : Addr} {t b : Int} (r : RatAt C H x t b) (q : Q (.int t) H) : spTop C [.ref x] H Q E := ⟨x, t, b, rfl, r, q⟩
def spBot (C : Addr) : Sp := fun vs H Q _ => ∃ (x : Addr) (t b : Int), vs = [.ref x] ∧ RatAt C H x t b ∧ Q (.int b) H
theorem i_bot {x : Addr} {t b : Int} (r : RatAt C H x t b) (q : Q (.int b) H) : spBot C [.ref x] H Q E := ⟨x, t, b, rfl, r, q⟩
/-- a number as the methods want it -/
structure Ok4 (t b : Int) : Prop where
  lo : Lo t b
  zt : Sz 4000 t
  zb : Sz 4000 b
end
def oN (t _ _ b2 : Int) : Int := t * b2
def oD (_ b t2 _ : Int) : Int := b * t2
theorem ok_int {i : Int} (z : Sz 4000 i) : Ok4 i 1 := ⟨lo_int i, z, sz_1⟩
end Ly
namespace Ly
open PySem PySem.Spec PyProof.Rows L2
section
variable {H : Hp} {Q : VK} {E : XK} {C : Addr} {x y : V} {t b t2 b2 : Int}
theorem Num.ok (n : Num C H x t b) (z : Sz 4000 t) (h : ∀ a, x = .ref a → Ok4 t b) : Ok4 t b := by
  rcases n with ⟨e, rfl⟩ | ⟨a, e, r⟩
  · exact ok_int z
  · exact h a e
theorem RatAt.num {a : Addr} (r : RatAt C H a t b) : Num C H (.ref a) t b := .inr ⟨a, rfl, r⟩
end
def It (i : Int) : Str := Str.ofString (toString i)
theorem it_len {i : Int} (h : Sz 1900 i) : (It i).length ≤ 2000 := by
  have h2 : i.natAbs.log2 < 1920 := Nat.lt_of_lt_of_le (PySem.Flt.log2_lt_of (by decide) h) (by decide)
  have e := int_text_length_le (k := 1920) (by decide) h2
  unfold It
  rw [PySem.ofString_length]
  omega
theorem it_log {i : Int} (h : Sz 1900 i) : i.natAbs.log2 < 1920 := Nat.lt_of_lt_of_le (PySem.Flt.log2_lt_of (by decide) h) (by decide)
theorem sl_of {n : Nat} (h : n ≤ 100000) : n ≤ sizeLine := Nat.le_trans h (by decide)
theorem app_len (x y : Str) : (x ++ y).length = x.length + y.length := by
  show (x.cps ++ y.cps).size = _
  rw [Array.size_append]
  rfl
section
variable {H : Hp} {Q : VK} {E : XK} {C : Addr} {σ : L2.St} {ta : TE}
def rFmt : V → Hp → VK → Prop := fun x H1 Q => (∃ y : Str, x = .str y ∧ y.length ≤ sizeLine ∧ Q (.str y) H1) ∨ ∃ i : Int, x = .int i ∧ i.natAbs.log2 < 1920 ∧ Q (.str (toString i)) H1
theorem i_fmt_i {i : Int} (h : Sz 1900 i) (q : Q (.str (It i)) H) : rFmt (.int i) H Q := .inr ⟨i, rfl, it_log h, q⟩
end
end Ly
namespace Ly
open PySem PySem.Spec PyProof.Rows L2
structure PotOk (a b : Int) : Prop where
  ha : 0 ≤ a
  hb : 0 ≤ b
  hc : b < 2147483648
def Pot (H : Hp) (p : Addr) : Prop := ∃ a b, H p = some (.lst [.int a, .int b]) ∧ PotOk a b
structure Dr (p : Addr) (H H' : Hp) : Prop where
  keep : ∀ q o, q ≠ p → H q = some o → H' q = some o
  pot : Pot H p
  pot' : Pot H' p
theorem Dr.refl {p : Addr} {H : Hp} (h : Pot H p) : Dr p H H := ⟨fun _ _ _ e => e, h, h⟩
theorem Dr.trans {p : Addr} {H H1 H2 : Hp} (a : Dr p H H1) (b : Dr p H1 H2) : Dr p H H2 := ⟨fun q o n e => b.keep q o n (a.keep q o n e), a.pot, b.pot'⟩
theorem Pot.same {p : Addr} {H H' : Hp} (s : Same H H') (h : Pot H p) : Pot H' p := by
  obtain ⟨a, b, e, o⟩ := h
  exact ⟨a, b, s _ _ e, o⟩
theorem Dr.of {p : Addr} {H H' : Hp} (s : Same H H') (h : Pot H p) : Dr p H H' := ⟨fun q o _ e => s q o e, h, h.same s⟩
theorem Dr.same {p : Addr} {H H1 H2 : Hp} (a : Dr p H H1) (s : Same H1 H2) : Dr p H H2 := a.trans (.of s a.pot')
theorem Dr.free {p : Addr} {H H' : Hp} (k : Dr p H H') {l : Addr} (h : H' l = none) : H l = none := by
  cases q : H l with
  | none => rfl
  | some o =>
    by_cases e : l = p
    · subst e
      obtain ⟨_, _, z, _⟩ := k.pot'
      rw [z] at h
      cases h
    · rw [k.keep l o e q] at h
      cases h
theorem Dr.ne {p : Addr} {H H' : Hp} (k : Dr p H H') {q : Addr} {o : HO} (h : H q = some o) (n : ∀ a b, o ≠ .lst [.int a, .int b]) : q ≠ p := by
  intro z
  subst z
  obtain ⟨a, b, e, _⟩ := k.pot
  rw [e] at h
  exact n a b (Option.some.inj h).symm
theorem Dr.tup {p : Addr} {H H' : Hp} (k : Dr p H H') {q : Addr} {xs : List V} (h : H q = some (.tup xs)) : H' q = some (.tup xs) := k.keep q _ (k.ne h fun _ _ z => by cases z) h
theorem Dr.ins {p : Addr} {H H' : Hp} (k : Dr p H H') {q C dx : Addr} {fs : List (Str × V)} (h : H q = some (.ins C dx fs)) : H' q = some (.ins C dx fs) := k.keep q _ (k.ne h fun _ _ z => by cases z) h
theorem RatAt.pk {p : Addr} {C : Addr} {H H' : Hp} {a : Addr} {t b : Int} (k : Dr p H H') (r : RatAt C H a t b) : RatAt C H' a t b := by
  obtain ⟨dx, e⟩ := r
  exact ⟨dx, k.ins e⟩
theorem Num.pk {p : Addr} {C : Addr} {H H' : Hp} {v : V} {t b : Int} (k : Dr p H H') (r : Num C H v t b) : Num C H' v t b := by
  rcases r with r | ⟨a, e, r⟩
  · exact .inl r
  · exact .inr ⟨a, e, r.pk k⟩
/-- a law's own fraction: a tuple of two ints -/
def FracAt (H : Hp) (a : Addr) (t b : Int) : Prop := H a = some (.tup [.int t, .int b])
theorem FracAt.same {H H' : Hp} {a : Addr} {t b : Int} (s : Same H H') (r : FracAt H a t b) : FracAt H' a t b := s _ _ r
theorem FracAt.pk {p : Addr} {H H' : Hp} {a : Addr} {t b : Int} (k : Dr p H H') (r : FracAt H a t b) : FracAt H' a t b := k.tup r
theorem fresh_ne {p q : Addr} {H : Hp} (h : Pot H p) (n : H q = none) : q ≠ p := by
  intro z
  subst z
  obtain ⟨_, _, e, _⟩ := h
  rw [e] at n
  cases n
/-- a new object, as a heap of its own -/
theorem i_new {H : Hp} {o : HO} {R : V → Hp → Prop} (q : ∀ p H', H p = none → H' p = some o → Same H H' → R (.ref p) H') : ∀ p, H p = none → R (.ref p) (upd H p o) := fun p n =>
  q p _ n upd_same fun b u e => by
    rw [upd_ne (ne_of_none e n)]
    exact e
section
variable {H : Hp} {Q : VK} {E : XK} {K : PySem.W.Frag} {σ : L2.St} {t : TA} {i j : Int}
def rMkT (xs : List V) (H : Hp) (Q : VK) : Prop := xs.length ≤ sizeLine ∧ ∀ p, H p = none → Q (.ref p) (upd H p (.tup xs))
def rMkL (xs : List V) (H : Hp) (Q : VK) : Prop := xs.length ≤ sizeLine ∧ ∀ p, H p = none → Q (.ref p) (upd H p (.lst xs))
theorem i_tup (q : t σ H fun xs H1 => rMkT xs H1 Q) : tTup t σ H Q := q
theorem i_lst (q : t σ H fun xs H1 => rMkL xs H1 Q) : tLst t σ H Q := q
/-- the ends of a display -/
theorem i_mkT {xs : List V} (h : xs.length ≤ 1000) (q : ∀ p H', H p = none → H' p = some (.tup xs) → Same H H' → Q (.ref p) H') : rMkT xs H Q := ⟨Nat.le_of_lt (small1000 h), i_new q⟩
theorem i_mkL {xs : List V} (h : xs.length ≤ 1000) (q : ∀ p H', H p = none → H' p = some (.lst xs) → Same H H' → Q (.ref p) H') : rMkL xs H Q := ⟨Nat.le_of_lt (small1000 h), i_new q⟩
theorem i_mkT2 {v w : V} (q : ∀ p H', H p = none → H' p = some (.tup [v, w]) → Same H H' → Q (.ref p) H') : rMkT [v, w] H Q := i_mkT (by show 2 ≤ 1000; decide) q
def spDraw : Sp := fun vs H Q _ => ∃ (p : Addr) (n : Int), vs = [.ref p, .int n] ∧ Pot H p ∧ 0 < n ∧ Sz 4000 n ∧ ∀ d H', 0 ≤ d → d < n → Dr p H H' → Q (.int d) H'
theorem i_draw {p : Addr} {n : Int} (h : Pot H p) (h0 : 0 < n) (z : Sz 4000 n) (q : ∀ d H', 0 ≤ d → d < n → Dr p H H' → Q (.int d) H') : spDraw [.ref p, .int n] H Q E := ⟨p, n, rfl, h, h0, z, q⟩
end
section
variable {H : Hp} {Q : VK} {K : PySem.W.Frag} {i j : Int} {p s : Addr} {xs ys : List V}
theorem i_dm (c : CDivP i j) (q : ∀ t H', H t = none → H' t = some (.tup [.int (i / j), .int (i % j)]) → Same H H' → Q (.ref t) H') : rDivmod [.int i, .int j] H Q := i_divmod c (i_new q)
end
section
variable {H : Hp} {Q : VK} {K : PySem.W.Frag} {a : Addr} {t b : Int}
theorem i_ix_f0 (h : FracAt H a t b) (q : Q (.int t) H) : rIx K (.ref a) (.int 0) H Q := i_ix_t (v := .int t) h rfl q
theorem i_ix_f1 (h : FracAt H a t b) (q : Q (.int b) H) : rIx K (.ref a) (.int 1) H Q := i_ix_t (v := .int b) h rfl q
end
theorem cdivp {i j : Int} (h : 0 < j) (h2 : Sz 4000 j) : CDivP i j := by
  refine ⟨h, ?_⟩
  have hl : j.natAbs.log2 < 4000 := PySem.Flt.log2_lt_of (by decide) h2
  show (decide ((if j == 0 then 0 else j.natAbs.log2 / 30 + 1) > 300) && _) = false
  rw [decide_eq_false]
  · rfl
  · split <;> omega
theorem Dr.mut {p q : Addr} {H H' : Hp} {o : HO} (k : Dr p H H') (h : H q = none) (n : q ≠ p) : Dr p H (upd H' q o) := by
  refine ⟨fun c u hc e => ?_, k.pot, ?_⟩
  · rw [upd_ne (ne_of_none e h)]
    exact k.keep c u hc e
  · obtain ⟨a, b, e, ok⟩ := k.pot'
    exact ⟨a, b, by rw [upd_ne (fun z => n z.symm)]; exact e, ok⟩
theorem sz_lit {n : Int} (h : n.natAbs < 2 ^ 64) : Sz 4000 n := sz_mono (n := 64) h (by decide)
section
variable {H : Hp} {Q : VK} {E : XK} {K : PySem.W.Frag} {C : Addr}
def spPot (K : PySem.W.Frag) : Sp := fun vs H Q _ => ∃ (s : Addr) (ns : List Int) (k : Int), vs = [.ref s, .int k] ∧ SqL K H s (ns.map V.int) ∧ 0 ≤ k ∧ k < 100 ∧ ∀ p H', H p = none → Same H H' → Pot H' p → Q (.ref p) H'
end
end Ly
namespace Ly
open PySem PySem.Spec PyProof.Rows L2
/-- all but lists stay -/
def NL (H H' : Hp) : Prop := ∀ q o, (∀ xs, o ≠ HO.lst xs) → H q = some o → H' q = some o
theorem NL.same {H H' : Hp} (s : Same H H') : NL H H' := fun q o _ e => s q o e
theorem NL.upd {H : Hp} {q : Addr} {xs ys : List V} (h : H q = some (.lst xs)) : NL H (upd H q (.lst ys)) := fun c o n e => by
  rw [upd_ne (fun z => by rw [z, h] at e; exact n xs (Option.some.inj e).symm)]
  exact e
theorem FracAt.nl {H H' : Hp} {a : Addr} {t b : Int} (s : NL H H') (r : FracAt H a t b) : FracAt H' a t b := s _ _ (fun _ z => by cases z) r
theorem RatAt.nl {C : Addr} {H H' : Hp} {a : Addr} {t b : Int} (s : NL H H') (r : RatAt C H a t b) : RatAt C H' a t b := by
  obtain ⟨dx, e⟩ := r
  exact ⟨dx, s _ _ (fun _ z => by cases z) e⟩
section
variable {σ : L2.St} {H : Hp} {Q : VK} {E : XK} {C : Addr} {sp : Sp} {tk : TA} {ta : TE} {m : Str} {t b : Int} {a : Addr} {v : V}
def rSK (sp : Sp) (n : Nat) : List V → Hp → VK → Prop := fun zs H2 Q => zs.length = n ∧ sp ([] ++ zs) H2 Q E0
theorem i_smethK {n : Nat} (q : tk σ H fun zs H2 => rSK sp n zs H2 Q) : tSMethK0 C n sp (· ++ ·) (tC (.ref C)) tk σ H Q := ⟨rfl, q⟩
theorem i_sk1 (q : sp [v] H Q E0) : rSK sp 1 [v] H Q := ⟨rfl, q⟩
def rMK (C : Addr) (m : Str) (n : Nat) (sp : Sp) (tk : TA) (σ : L2.St) : V → Hp → VK → Prop := fun x H1 Q => ∃ a dx fs, x = .ref a ∧ H1 a = some (.ins C dx fs) ∧ fs.lookup m = none ∧ tk σ H1 fun zs H2 => zs.length = n ∧ sp ([x] ++ zs) H2 Q E0
theorem i_methK {n : Nat} (q : ta σ H fun x H1 => rMK C m n sp tk σ x H1 Q) : tMethK0 C m n sp (· ++ ·) ta tk σ H Q := q
def rMK1 (n : Nat) (sp : Sp) (x : V) : List V → Hp → VK → Prop := fun zs H2 Q => zs.length = n ∧ sp ([x] ++ zs) H2 Q E0
theorem i_rmk {n : Nat} (r : RatAt C H a t b) (h1 : ¬ m = "_top") (h2 : ¬ m = "_bottom") (q : tk σ H fun zs H2 => rMK1 n sp (.ref a) zs H2 Q) : rMK C m n sp tk σ (.ref a) H Q := by
  obtain ⟨dx, e⟩ := r
  exact ⟨a, dx, _, rfl, e, flds_no t b h1 h2, q⟩
theorem i_mk11 (q : sp [.ref a, v] H Q E0) : rMK1 1 sp (.ref a) [v] H Q := ⟨rfl, q⟩
/-- C(bottom=.., top=..) -/
def gBT {α : Type} (us ws : List α) : List α := us ++ ws.reverse
def rMakeK (C : Addr) (sp : Sp) : List V → Hp → VK → Prop := fun zs H2 Q => zs.length = 2 ∧ ∀ x dx, H2 x = none → H2 dx = none → dx ≠ x → sp (gBT [.ref x] zs) (upd (upd H2 dx (.own x)) x (.ins C dx [])) (fun v H3 => v = .non ∧ Q (.ref x) H3) E0
theorem i_makeK (q : tk σ H fun zs H2 => rMakeK C sp zs H2 Q) : tMakeK C 0 2 sp gBT E0 tNil tk σ H Q := by
  have e : (fun (zs : List V) (H2 : Hp) => rMakeK C sp zs H2 Q) = fun zs H2 => ([] : List V).length = 0 ∧ zs.length = 2 ∧ ∀ x dx, H2 x = none → H2 dx = none → dx ≠ x → sp (gBT (.ref x :: []) zs) (upd (upd H2 dx (.own x)) x (.ins C dx [])) (fun v H3 => v = .non ∧ Q (.ref x) H3) E0 := by
    funext zs H2
    simp [rMakeK]
  rw [e] at q
  exact q
end
def FrL (H : Hp) (r : Addr) (ps : List (Int × Int)) : Prop := ∃ ys : List V, H r = some (.lst ys) ∧ ys.length = ps.length ∧ ∀ (i : Nat) (v : V) (p : Int × Int), ys[i]? = some v → ps[i]? = some p → ∃ y : Addr, v = V.ref y ∧ FracAt H y p.1 p.2
end Ly
namespace Ly
open PySem PySem.Spec PyProof.Rows L2
def FrAll (H : Hp) : List V → List (Int × Int) → Prop
  | [], [] => True
  | v :: vs, p :: ps => (∃ y : Addr, v = V.ref y ∧ FracAt H y p.1 p.2) ∧ FrAll H vs ps
  | _, _ => False
theorem FrAll.of {H : Hp} : ∀ {ys : List V} {ps : List (Int × Int)}, ys.length = ps.length → (∀ (i : Nat) (v : V) (p : Int × Int), ys[i]? = some v → ps[i]? = some p → ∃ y : Addr, v = V.ref y ∧ FracAt H y p.1 p.2) → FrAll H ys ps
  | [], [], _, _ => trivial
  | v :: vs, p :: ps, l, h => ⟨h 0 v p rfl rfl, FrAll.of (by simpa using l) fun i w q hw hq => h (i + 1) w q hw hq⟩
  | [], _ :: _, l, _ => by cases l
  | _ :: _, [], l, _ => by cases l
theorem FrL.same {H H' : Hp} {r : Addr} {ps : List (Int × Int)} (s : Same H H') (h : FrL H r ps) : FrL H' r ps := by
  obtain ⟨ys, e, l, g⟩ := h
  refine ⟨ys, s _ _ e, l, fun i v p h1 h2 => ?_⟩
  obtain ⟨y, e2, f⟩ := g i v p h1 h2
  exact ⟨y, e2, f.same s⟩
def dF (p : Int × Int) : PyData := .tuple [.int p.1, .int p.2]
def dL (ps : List (Int × Int)) : PyData := .list (ps.map dF)
theorem FracAt.dp {K : PySem.W.Frag} {H : Hp} {r : Addr} {t b : Int} (h : FracAt H r t b) : Dp K H (.ref r) (dF (t, b)) := .tup (SqT.of h) (.cons (.int t) (.cons (.int b) .nil))
theorem FrAll.dp {K : PySem.W.Frag} {H : Hp} : ∀ {ys : List V} {ps : List (Int × Int)}, FrAll H ys ps → DpAll K H ys (ps.map dF)
  | [], [], _ => .nil
  | v :: vs, p :: ps, h => by
    obtain ⟨⟨y, rfl, f⟩, g⟩ := h
    exact .cons f.dp g.dp
  | [], _ :: _, h => by cases h
  | _ :: _, [], h => by cases h
theorem FrL.dp {K : PySem.W.Frag} {H : Hp} {r : Addr} {ps : List (Int × Int)} (h : FrL H r ps) : Dp K H (.ref r) (dL ps) := by
  obtain ⟨ys, e, l, g⟩ := h
  exact .lst (SqL.of e) (FrAll.of l g).dp
theorem lay_refl {d : PyData} (h : SeqAt.shaped d = true) : d.eqv d = true := SeqAt.eqv_refl d (by
  unfold SeqAt.shaped at h
  exact (Bool.and_eq_true_iff.mp h).1)
theorem ok_app {x y : Str} (h : PyData.strOk x = true) (k : PyData.strOk y = true) : PyData.strOk (x ++ y) = true := by
  show (x.cps ++ y.cps).all _ = true
  rw [Array.all_append]
  exact Bool.and_eq_true_iff.mpr ⟨h, k⟩
theorem ok_It (i : Int) : PyData.strOk (It i) = true := by
  have h : ∀ c ∈ (It i).cps.toList, c < 1114112 := fun c hc => by
    rcases Nat.lt_or_ge c 1114112 with k | k
    · exact k
    · exact absurd hc (PyProof.Rows.int_text_free' c (by omega) i)
  unfold PyData.strOk
  rw [Array.all_eq_true']
  intro c hc
  exact decide_eq_true (h c (Array.mem_toList_iff.mpr hc))
end Ly
namespace Ly
open PySem PySem.Spec PyProof.Rows L2
end Ly
namespace Ly
end Ly
namespace Ly
open PySem PySem.Spec PyProof.Rows L2
section
variable {σ : L2.St} {H : Hp} {tt uu : TT} {b c : Bool} {D : Ends}
theorem i_andB {Q : Bool → Hp → Prop} (h1 : ∀ Q : Bool → Hp → Prop, Q b H → tt σ H Q) (h2 : ∀ Q : Bool → Hp → Prop, Q c H → uu σ H Q) (q : Q (b && c) H) : tAnd tt uu σ H Q := by
  refine h1 _ ?_
  show if b = true then uu σ H Q else Q false H
  cases b with
  | true => exact iteT (h2 _ q)
  | false => exact iteF q
theorem i_orB {Q : Bool → Hp → Prop} (h1 : ∀ Q : Bool → Hp → Prop, Q b H → tt σ H Q) (h2 : ∀ Q : Bool → Hp → Prop, Q c H → uu σ H Q) (q : Q (b || c) H) : tOr tt uu σ H Q := by
  refine h1 _ ?_
  show if b = true then Q true H else uu σ H Q
  cases b with
  | true => exact iteT q
  | false => exact iteF (h2 _ q)
def rFor (j : Nat) (tb : TS) (D : Ends) (σ : L2.St) : List V → Hp → Prop := fun vs H1 => ∃ k, vs = [.int k] ∧ -2 ^ 62 ≤ k ∧ k < 2 ^ 62 ∧ ∃ W : Nat → Nat → L2.St → Hp → Prop, (∃ m, W 0 m σ H1) ∧ ∀ (i m : Nat) (σ : L2.St) (H : Hp), W i m σ H → (Itr 0 k.toNat).stop i H ∧ D.nx σ H ∨ (Itr 0 k.toNat).go i H ∧ ∃ N, (∀ (σ' : L2.St) (H' : Hp), N σ' H' → ∃ m', m' < m ∧ W (i + 1) m' σ' H') ∧ ∀ (x : V) (H' : Hp), (Itr 0 k.toNat).yld i H x H' → gName j x σ H' fun σ2 H2 => tb { nx := N, rt := D.rt, bk := D.nx, ct := N } σ2 H2
theorem i_for {j : Nat} {tb : TS} {ta : TA} (q : ta σ H fun vs H1 => rFor j tb D σ vs H1) : tFor (iRng1 ta) (gName j) tb D σ H := q
theorem i_rfor {j : Nat} {tb : TS} {n : Int} (h0 : 0 ≤ n) (h1 : n ≤ 1000) (J : Nat → L2.St → Hp → Prop) (start : J 0 σ H)
    (step : ∀ (i : Nat) σ' H', (i : Int) < n → J i σ' H' → tb { nx := J (i + 1), rt := D.rt, bk := D.nx, ct := J (i + 1) } (σ'.set j (some (.int (i : Int)))) H')
    (fin : ∀ σ' H', J n.toNat σ' H' → D.nx σ' H') : rFor j tb D σ [.int n] H := by
  refine ⟨n, rfl, by omega, by omega, fun i m σ' H' => m = n.toNat - i ∧ i ≤ n.toNat ∧ J i σ' H', ⟨_, rfl, Nat.zero_le _, start⟩, ?_⟩
  rintro i m σ' H' ⟨rfl, hi, hJ⟩
  by_cases h : i < n.toNat
  · refine .inr ⟨h, J (i + 1), fun σ2 H2 h2 => ⟨_, ?_, rfl, h, h2⟩, ?_⟩
    · omega
    · rintro x H2 ⟨rfl, rfl⟩
      have e : (0 : Int) + (i : Int) = (i : Int) := Int.zero_add _
      rw [e]
      exact step i σ' H2 (by omega) hJ
  · have e : i = n.toNat := by omega
    subst e
    exact .inl ⟨Nat.le_refl _, fin σ' H' hJ⟩
end
end Ly
namespace Ly
open PySem PySem.Spec PyProof.Rows L2
theorem Num.nl {C : Addr} {H H' : Hp} {v : V} {t b : Int} (s : NL H H') (r : Num C H v t b) : Num C H' v t b := by
  rcases r with r | ⟨a, e, r⟩
  · exact .inl r
  · exact .inr ⟨a, e, r.nl s⟩
/-- all but one list stays -/
def KL (l : Addr) (H H' : Hp) : Prop := ∀ c o, c ≠ l → H c = some o → H' c = some o
theorem Same.kl {l : Addr} {H0 H H' : Hp} (k : KL l H H') (n : H0 l = none) (s : Same H0 H) : Same H0 H' := fun c o e => k c o (ne_of_none e n) (s _ _ e)
end Ly
namespace Ly
open PySem PySem.Spec PyProof.Rows L2
theorem app_toList (x y : Str) : (x ++ y).cps.toList = x.cps.toList ++ y.cps.toList := by
  show (x.cps ++ y.cps).toList = _
  exact Array.toList_append
end Ly
namespace Ly
open PySem PySem.Spec PyProof.Rows L2
theorem Dr.nl {p : Addr} {H H' : Hp} (k : Dr p H H') : NL H H' := fun q o n e => k.keep q o (k.ne e fun a b z => n _ z) e
theorem Dr.upd {p q : Addr} {H H' : Hp} {o : HO} (k : Dr p H H') (h : H q = none) (n : q ≠ p) : Dr p H (upd H' q o) := k.mut h n
section
variable {K : PySem.W.Frag} {σ : L2.St} {H : Hp} {Q : VK} {te : TE} {tt : TT} {p : Addr} {xs : List V} {n j : Nat} {vs : List Nat}
def rLc (J : L2.It) (g : TG) (tt : TT) (te : TE) (vs : List Nat) (σ : L2.St) (H1 : Hp) (Q : VK) : Prop := ∀ D : Addr, H1 D = none → ∃ W : Nat → Nat → Hp → Prop, (∃ m, W 0 m (L2.upd H1 D (.lst []))) ∧ ∀ (i m : Nat) (H : Hp), W i m H → J.stop i H ∧ Q (.ref D) H ∨ J.go i H ∧ ∃ Nx : Hp → Prop, (∀ H', Nx H' → ∃ m', m' < m ∧ W (i + 1) m' H') ∧
  ∀ (x : V) (H' : Hp), J.yld i H x H' → g x (wipe σ vs) H' fun σ2 H2 => wipe σ2 vs = wipe σ vs ∧ tt σ2 H2 fun b H3 => if b = true then te σ2 H3 fun y H4 => ∃ acc, H4 D = some (.lst acc) ∧ acc.length < sizeLine ∧ Nx (L2.upd H4 D (.lst (acc ++ [y]))) else Nx H3
def rLcR (g : TG) (tt : TT) (te : TE) (ws : List Nat) (σ : L2.St) : List V → Hp → VK → Prop := fun vs H1 Q => ∃ k, vs = [.int k] ∧ -2 ^ 62 ≤ k ∧ k < 2 ^ 62 ∧ rLc (Itr 0 k.toNat) g tt te ws σ H1 Q
theorem i_lcr {g : TG} {ta : TA} (q : ta σ H fun vs' H1 => rLcR g tt te vs σ vs' H1 Q) : tLc (iRng1 ta) g tt te vs σ H Q := q
def rLcL (K : PySem.W.Frag) (g : TG) (tt : TT) (te : TE) (ws : List Nat) (σ : L2.St) : V → Hp → VK → Prop := fun x H1 Q => ∃ a, x = .ref a ∧ (∃ xs, SqL K H1 a xs) ∧ rLc (Itl K a) g tt te ws σ H1 Q
theorem i_lcl {g : TG} {tl : TE} (q : tl σ H fun x H1 => rLcL K g tt te vs σ x H1 Q) : tLc (iList K tl) g tt te vs σ H Q := q
/-- over a range, drawing -/
theorem i_rlcRp {m : Int} (G : Nat → Hp → V → Prop) (hp : Pot H p) (h0 : 0 ≤ m) (h1 : m ≤ 1000) (mono : ∀ i H1 H2 v, NL H1 H2 → G i H1 v → G i H2 v) (hw : ∀ x, wipe ((wipe σ vs).set j (some x)) vs = wipe σ vs)
    (turn : ∀ (i : Nat) H' (Q' : VK), (i : Int) < m → Dr p H H' → (∀ y H4, Dr p H' H4 → G i H4 y → Q' y H4) → te ((wipe σ vs).set j (some (.int (i : Int)))) H' Q')
    (fin : ∀ r H' ys, H r = none → Dr p H H' → H' r = some (.lst ys) → ys.length = m.toNat → (∀ i v, ys[i]? = some v → G i H' v) → Q (.ref r) H') : rLcR (gName j) tYes te vs σ [.int m] H Q := by
  refine ⟨m, rfl, by omega, by omega, fun D nD => ?_⟩
  have ne := fresh_ne hp nD
  have d0 : Dr p H (L2.upd H D (.lst [])) := (Dr.refl hp).mut nD ne
  refine lc_range (lo := 0) (n := m.toNat) (fun i H' => ∃ ys, H' D = some (.lst ys) ∧ ys.length = i ∧ i ≤ m.toNat ∧ Dr p H H' ∧ ∀ k v, ys[k]? = some v → G k H' v)
    ⟨[], upd_same, rfl, Nat.zero_le _, d0, fun m v e => by simp at e⟩ ?_ ?_
  · rintro i H' hi ⟨ys, hD, hy, hle, d, g⟩
    have e0 : (0 : Int) + (i : Int) = (i : Int) := Int.zero_add _
    rw [e0]
    refine ⟨hw _, ?_⟩
    show te ((wipe σ vs).set j (some (.int (i : Int)))) H' _
    refine turn i H' _ (by omega) d fun y H4 d4 gy => ?_
    have hD4 := d4.keep D _ ne hD
    refine ⟨ys, hD4, by rw [hy]; exact small1000 (by omega), ys ++ [y], upd_same, by rw [List.length_append, hy]; rfl, hi, (d.trans d4).mut nD ne, fun k v e => ?_⟩
    have kk := NL.upd (ys := ys ++ [y]) hD4
    rcases Nat.lt_or_ge k ys.length with h | h
    · rw [List.getElem?_append_left h] at e
      exact mono k _ _ v kk (mono k _ _ v d4.nl (g k v e))
    · rw [List.getElem?_append_right h] at e
      have : k - ys.length = 0 := by
        have := (List.getElem?_eq_some_iff.mp e).1
        simp at this
        omega
      rw [this] at e
      have e2 : y = v := Option.some.inj e
      subst e2
      have : k = i := by omega
      subst this
      exact mono _ _ _ y kk gy
  · rintro H' ⟨ys, hD, hy, _, d, g⟩
    exact fin D H' ys nD d hD hy g
/-- over a list, filtered, nothing changes but what is new -/
theorem i_rlcF {l : Addr} (P : V → Bool) (f : V → V) (hl : SqL K H l xs) (keep : ∀ H', Same H H' → SqL K H' l xs) (hz : xs.length ≤ 1000) (hw : ∀ x, wipe ((wipe σ vs).set j (some x)) vs = wipe σ vs)
    (test : ∀ x H' (R : Bool → Hp → Prop), x ∈ xs → Same H H' → R (P x) H' → tt ((wipe σ vs).set j (some x)) H' R)
    (elt : ∀ x H' (Q' : VK), x ∈ xs → P x = true → Same H H' → (∀ H4, Same H' H4 → Q' (f x) H4) → te ((wipe σ vs).set j (some x)) H' Q')
    (fin : ∀ r H', H r = none → Same H H' → H' r = some (.lst ((xs.filter P).map f)) → Q (.ref r) H') : rLcL K (gName j) tt te vs σ (.ref l) H Q := by
  refine ⟨l, rfl, ⟨xs, hl⟩, fun D nD => ?_⟩
  have same0 : Same H (L2.upd H D (.lst [])) := fun c o e => by
    rw [upd_ne (ne_of_none e nD)]
    exact e
  refine lc_list (K := K) (a := l) (xs := xs) (fun i H' => H' D = some (.lst (((xs.take i).filter P).map f)) ∧ Same H H') ⟨by simp [upd_same], same0⟩ (fun i H' _ h => keep H' h.2) ?_ ?_
  · rintro i x H' hi ⟨hD, s⟩
    have hlt : i < xs.length := (List.getElem?_eq_some_iff.mp hi).1
    have hx : x ∈ xs := List.mem_of_getElem? hi
    have ht : xs.take (i + 1) = xs.take i ++ [x] := by
      rw [List.take_add_one, hi]
      rfl
    have hle : (((xs.take i).filter P).map f).length < sizeLine := by
      rw [List.length_map]
      have h1 := List.length_filter_le P (xs.take i)
      have h2 := List.length_take_le i xs
      exact small1000 (by omega)
    refine ⟨hw _, ?_⟩
    show tt ((wipe σ vs).set j (some x)) H' _
    refine test x H' _ hx s ?_
    by_cases hP : P x = true
    · rw [if_pos hP]
      refine elt x H' _ hx hP s fun H4 s4 => ⟨_, s4 _ _ hD, hle, ?_, ?_⟩
      · rw [ht, List.filter_append, List.map_append, List.filter_cons, if_pos hP]
        exact upd_same
      · intro c o e
        rw [upd_ne (ne_of_none e nD)]
        exact s4 _ _ (s _ _ e)
    · rw [if_neg hP]
      refine ⟨?_, s⟩
      rw [ht, List.filter_append, List.map_append, List.filter_cons, if_neg hP]
      simpa using hD
  · rintro H' ⟨hD, s⟩
    rw [List.take_length] at hD
    exact fin D H' nD s hD
/-- over a range, nothing changes but what is new -/
theorem i_rlcRF {m : Int} (f : Nat → V) (h0 : 0 ≤ m) (h1 : m ≤ 1000) (hw : ∀ x, wipe ((wipe σ vs).set j (some x)) vs = wipe σ vs)
    (elt : ∀ (i : Nat) H' (Q' : VK), (i : Int) < m → Same H H' → (∀ H4, Same H' H4 → Q' (f i) H4) → te ((wipe σ vs).set j (some (.int (i : Int)))) H' Q')
    (fin : ∀ r H', H r = none → Same H H' → H' r = some (.lst ((List.range m.toNat).map f)) → Q (.ref r) H') : rLcR (gName j) tYes te vs σ [.int m] H Q := by
  refine ⟨m, rfl, by omega, by omega, fun D nD => ?_⟩
  have same0 : Same H (L2.upd H D (.lst [])) := fun c o e => by
    rw [upd_ne (ne_of_none e nD)]
    exact e
  refine lc_range (lo := 0) (n := m.toNat) (fun i H' => i ≤ m.toNat ∧ H' D = some (.lst ((List.range i).map f)) ∧ Same H H') ⟨Nat.zero_le _, by simp [upd_same], same0⟩ ?_ ?_
  · rintro i H' hi ⟨hle, hD, s⟩
    have e0 : (0 : Int) + (i : Int) = (i : Int) := Int.zero_add _
    rw [e0]
    refine ⟨hw _, ?_⟩
    show te ((wipe σ vs).set j (some (.int (i : Int)))) H' _
    refine elt i H' _ (by omega) s fun H4 s4 => ⟨_, s4 _ _ hD, ?_, hi, ?_, ?_⟩
    · rw [List.length_map, List.length_range]
      exact small1000 (by omega)
    · rw [List.range_succ, List.map_append]
      exact upd_same
    · intro c o e
      rw [upd_ne (ne_of_none e nD)]
      exact s4 _ _ (s _ _ e)
  · rintro H' ⟨_, hD, s⟩
    exact fin D H' nD s hD
end
section
variable {K : PySem.W.Frag} {σ : L2.St} {H : Hp} {Q : VK} {l : Addr} {xs : List V} {ys : List Str} {x y : Str} {v : V} {ta tb : TE} {t : TA}
theorem inV_strs (x : Str) (ys : List Str) : inV (.str x) (ys.map V.str) = decide (x ∈ ys) := by
  induction ys with
  | nil => rfl
  | cons y ys ih =>
    have e : inV (.str x) ((y :: ys).map V.str) = (y == x || inV (.str x) (ys.map V.str)) := rfl
    rw [e, ih]
    by_cases h : y = x
    · subst h
      simp
    · have h2 : ¬ x = y := fun z => h z.symm
      simp [h, h2]
theorem flat_strs (ys : List Str) : (ys.map V.str).all flatV = true := by
  induction ys with
  | nil => rfl
  | cons y ys ih => simp [flatV] at ih ⊢
theorem i_inS (h : H l = some (.lst (ys.map V.str))) (q : Q (.bl (decide (x ∈ ys))) H) : rIn K false (.str x) (.ref l) H Q := ⟨l, _, rfl, .inl (SqL.of h), rfl, flat_strs ys, by rw [inV_strs]; exact q⟩
theorem i_niS (h : H l = some (.lst (ys.map V.str))) (q : Q (.bl (!decide (x ∈ ys))) H) : rIn K true (.str x) (.ref l) H Q := ⟨l, _, rfl, .inl (SqL.of h), rfl, flat_strs ys, by rw [inV_strs]; exact q⟩
def rJoin (K : PySem.W.Frag) : V → List V → Hp → VK → Prop := fun x xs H Q => ∃ a p, ∃ ys : List Str, x = .str a ∧ xs = [.ref p] ∧ (SqL K H p (ys.map V.str) ∨ SqT K H p (ys.map V.str)) ∧ (ys.map (·.length)).sum + ys.length * a.length ≤ 16777216 ∧ Q (.str (Txt.join a ys)) H
theorem i_join {a : Str} (h : H l = some (.lst (ys.map V.str))) (z : (ys.map (·.length)).sum + ys.length * a.length ≤ 16777216) (q : Q (.str (Txt.join a ys)) H) : rJoin K (.str a) [.ref l] H Q := ⟨a, l, ys, rfl, rfl, .inl (SqL.of h), z, q⟩
theorem i_tM1 {r : V → List V → Hp → VK → Prop} (q : ta σ H fun x H1 => (∃ a, x = .str a) ∧ tb σ H1 fun y H2 => r x [y] H2 Q) : tM1 r ta tb σ H Q := q
theorem i_tBM {T : String} {r : V → List V → Hp → VK → Prop} (q : ta σ H fun x H1 => tyV K T x H1 ∧ t σ H1 fun vs H2 => r x vs H2 Q) : tBM K T r ta t σ H Q := q
theorem ty_lst (h : H l = some (.lst xs)) : tyV K "list" (.ref l) H := .inl ⟨rfl, _, SqL.of h⟩
theorem i_append (h : H l = some (.lst xs)) (z : xs.length ≤ 1000) (q : ∀ H', NL H H' → KL l H H' → H' l = some (.lst (xs ++ [v])) → Q .non H') : rAppend (.ref l) [v] H Q := ⟨l, xs, v, rfl, rfl, h, small1000 z, q _ (NL.upd h) (fun c o n e => by rw [upd_ne n]; exact e) upd_same⟩
theorem i_ixS {z : Str} {c : Nat} {i : Nat} (hz : z.length ≤ 1000) (e : z.cps.toList[i]? = some c) (q : Q (.str ⟨#[c]⟩) H) : rIx K (.str z) (.int i) H Q := .inr (.inr ⟨z, (i : Int), c, rfl, rfl, Nat.le_of_lt (small1000 hz), atI_nat e, q⟩)
end
section
variable {X : Cx} {K : PySem.W.Frag} {o e : Expr} {es : List Expr} {to te : TE} {t : TA} {name : Str} {apos cpos : Pos} {T id : String} {r : V → List V → Hp → VK → Prop}
theorem pe_bmK (hK : X.K = K) (pa : PlainAttrs T) (sl : Slot T name id) (ty : typeOf (Value.builtin id) = pure (Value.type "method_descriptor")) (m : MtR X id r) (he : PE X o to) (ha : PA X (e :: es) t)
    (h1 : attributeBase o name X.env (eval o X.env) = eval o X.env := by rfl)
    (h2 : (((backTo cpos (starEach (e :: es) X.env)).all fun x => !x.1) && ((backToKw cpos (keywordEach [] X.env)).all fun x => x.1.isSome) && decide ((e :: es).length + ([] : List Keyword).length + (if ([] : List Keyword).isEmpty = true then 0 else 1) < 30)) = true := by rfl)
    (h3 : (apos.endLine == cpos.line) = true := by rfl) (h4 : starEach (e :: es) X.env = (false, eval e X.env) :: starEach es X.env := by rfl) (h5 : ((backTo cpos (starEach es X.env)).any fun x => x.1) = false := by rfl) :
    PE X (.Call (.Attribute o name apos) (e :: es) [] cpos) (tBM K T r to t) := by
  subst hK
  exact pe_bm pa sl ty m he ha h1 h2 h3 h4 h5
theorem pe_joinK (hK : X.K = K) (he : PE X o to) (ha : PE X e te) (h4 : starEach [e] X.env = [(false, eval e X.env)] := by rfl)
    (h1 : attributeBase o "join" X.env (eval o X.env) = eval o X.env := by rfl) (h3 : (apos.endLine == cpos.line) = true := by rfl) :
    PE X (.Call (.Attribute o "join" apos) [e] [] cpos) (tM1 (rJoin K) to te) := by
  subst hK
  exact pe_join he ha h4 h1 h3
theorem pi_listK {tg : Expr} (hK : X.K = K) (he : PE X e te) : PI X tg e (iList K te) := by
  subst hK
  exact pi_list he
end
def rListOf (K : PySem.W.Frag) : List V → Hp → VK → Prop := fun xs H Q => ∃ p ys, xs = [.ref p] ∧ (SqL K H p ys ∨ SqT K H p ys) ∧ ∀ l : Addr, H l = none → Q (.ref l) (upd H l (.lst ys))
theorem i_bor {p q A B : Prop} [Decidable p] [Decidable q] (h1 : A) (h2 : ¬ p → ¬ q → B) : if (decide p || decide q) = true then A else B := by
  by_cases hp : p
  · rw [decide_eq_true hp]
    exact iteT h1
  · by_cases hq : q
    · rw [decide_eq_true hq, Bool.or_true]
      exact iteT h1
    · rw [decide_eq_false hp, decide_eq_false hq]
      exact iteF (h2 hp hq)
section
variable {σ : L2.St} {H : Hp} {Q : VK} {K : PySem.W.Frag} {te : TE} {tl th : TO} {r : V → Option Int → Option Int → Hp → VK → Prop} {p : Addr} {xs : List V}
theorem i_sl (q : te σ H fun x H1 => tl σ H1 fun l H2 => th σ H2 fun u H3 => r x l u H3 Q) : tSl r te tl th σ H Q := q
theorem i_noPart {R : Option Int → Hp → Prop} (q : R none H) : tNoPart σ H R := q
theorem i_part {R : Option Int → Hp → Prop} (q : te σ H fun x H1 => ∃ i, x = .int i ∧ R (some i) H1) : tPart te σ H R := q
end
end Ly
namespace Ly
open PySem PySem.Spec PyProof.Rows L2
structure FnG (P : Program) (w : World) (K : PySem.W.Frag) (mg : Str → Option Value) (base : Heap) (k : Nat) (f : Addr) (fd : FuncData) (ps : List Str) (sp : Sp) : Prop where
  len : ∀ vs H Q E, sp vs H Q E → vs.length = ps.length
  run : ∀ (A : Around) (outer : List Env) (s : Shared) (H : Hp) (args : Args) (us : List Value) (vs : List V) (Q : VK) (E : XK),
    Room k A → A.guards = some [] → Env0 P w K mg base A outer s H → BindsTo s fd args (ps.zip us) → Vals vs us → sp vs H Q E → codeAny (model P w) A (.call (.ref f) args) (CR CX0 outer P w H s Q E) s
theorem FnG.mono {P : Program} {w : World} {K : PySem.W.Frag} {mg : Str → Option Value} {base : Heap} {k j : Nat} {f : Addr} {fd : FuncData} {ps : List Str} {sp : Sp} (F : FnG P w K mg base k f fd ps sp) (h : k ≤ j) : FnG P w K mg base j f fd ps sp :=
  ⟨F.len, fun A outer s H args us vs Q E hr hg => F.run A outer s H args us vs Q E (hr.mono h) hg⟩
/-- a plain one is one -/
theorem FnG.of {P : Program} {w : World} {K : PySem.W.Frag} {mg : Str → Option Value} {base : Heap} {k : Nat} {f : Addr} {fd : FuncData} {ps : List Str} {sp : Sp} (F : FnOk P w K mg base CX0 k f fd ps sp) : FnG P w K mg base k f fd ps sp :=
  ⟨F.len, fun A outer s H args us vs Q E hr _ => F.run A outer s H args us vs Q E hr⟩
theorem fng_of {P : Program} {w : World} {K : PySem.W.Frag} {mg : Str → Option Value} {base : Heap} {k : Nat} {f : Addr} {name qual : Str} {params : Arguments} {body : List Stmt} {scope : Scope} {dV kV doc pm cdv ct oc : Value} {an od : Option Addr} {osl : Array (Option Value)} {N ps : List Str} {sp : Sp}
    (lk : K.lookup f = some ⟨oc, od, .func (PySem.W.fnOf name qual params body scope dV kV doc pm an cdv ct), osl⟩) (hcd : PySem.W.codeIn K cdv qual = true) (S : FnScope N ps scope) (len : ∀ vs H Q E, sp vs H Q E → vs.length = ps.length)
    (hbody : ∀ (A : Around) (outer : List Env) (s : Shared) (H : Hp) (vs : List V) (Q : VK) (E : XK), Room k (A.deeper (envOfC qual scope s.heap.objs.size f cdv)) → A.guards = some [] → sp vs H Q E →
      ∃ t, PSs (cxOf CX0 P w K mg base N qual scope f cdv A outer s H E) body t ∧ t { nx := fun _ H' => Q .non H', rt := Q } (L2.start N vs) H) :
    FnG P w K mg base (k + 1) f (PySem.W.fnOf name qual params body scope dV kV doc pm an cdv ct) ps sp := by
  refine ⟨len, fun A outer s H args us vs Q E hr hg e0 hb r hsp => ?_⟩
  have hl := len vs H Q E hsp
  have KX := PySem.W.Frag.In.keeps e0.mod.kin fun b o e => (e0.bs b o e).1
  have lim := Heap.NoLimit.keeps e0.mod.nolimit fun b o e => (e0.bs b o e).1
  have hkind : ∀ x : Str × Value, x ∈ ps.zip us → List.lookup x.1 scope.names = some NameKind.local ∨ List.lookup x.1 scope.names = some NameKind.cell ∧ (List.lookup x.1 (cellsFrom (s.heap.objs.size + 1) scope.names [])).isSome = true := fun x hy => by
    obtain ⟨n, v⟩ := x
    rcases S.par n (List.of_mem_zip hy).1 with q | q
    · exact Or.inl q
    · exact Or.inr ⟨q, PySem.W.cellsFrom_some scope.names (s.heap.objs.size + 1) [] (Or.inl q)⟩
  refine codeAny_call_function (Room.depth hr) (KX f _ lk) rfl S.co S.gen rfl (PySem.W.codeRec_of KX hcd) (hb (model P w) A.in1 _ _ ?_)
  refine wpAny_newFunctionEnv_cells S.kind hkind fun env he s1 x => ?_
  subst he
  refine ⟨Heap.NoLimit.keeps lim x.toInCall.keep, codeAny_func ?_⟩
  obtain ⟨t, ht, hq⟩ := hbody A outer s H vs Q E (Room.deeper hr (envOfC qual scope s.heap.objs.size f cdv)) hg hsp
  have I := inv_start (CX := CX0) (E := E) S hr.hd e0 hl r x
  refine wpAny_mono (ht.run [] s1 (L2.start N vs) H _ I hq) (fun fl s' hs => ?_) fun e s' hs => hs
  cases fl with
  | next =>
    obtain ⟨σ', H', J, q⟩ := hs
    exact ⟨.non, H', J.os, J.bare, J.base, J.hok, rfl, q⟩
  | brk =>
    obtain ⟨_, _, _, q⟩ := hs
    exact q.elim
  | cont =>
    obtain ⟨_, _, _, q⟩ := hs
    exact q.elim
  | ret u =>
    obtain ⟨v, σ', H', J, rv, q⟩ := hs
    exact ⟨v, H', J.os, J.bare, J.base, J.hok, rv, q⟩
section
variable {X : Cx} {k j : Nat} {f : Addr} {fd : FuncData} {ps : List Str} {sp : Sp} {pins : List (Addr × Obj)} {σ : L2.St} {H : Hp} {s : Shared} {Q : VK} {us : List Value} {vs : List V}
theorem run_fng (F : FnG X.prog X.w X.K X.mg X.base k f fd ps sp) (hr : Room k X.A) (hg : X.A.guards = some []) (hb : Binds X.K fd ps []) (I : Inv X pins σ H s) (r : Vals vs us) (h : sp vs H Q E0) :
    wpAny (model X.prog X.w) X.A (call (.ref f) us) (EP X pins σ Q) X.xe s := by
  have hl := F.len vs H Q E0 h
  refine wpAny_call (codeAny_mono (F.run X.A X.stack s H ⟨us, []⟩ us vs Q E0 hr hg I.env0 ?_ r h) fun r' s' hq => ?_)
  · have := hb s us I.kIn (by rw [List.append_nil, ← r.length]; exact hl)
    rw [List.append_nil] at this
    exact this
  · match r', hq with
    | .error e, hq => exact pass0 pins σ H s e s' I hq
    | .ok .next, hq => exact hq.elim
    | .ok .brk, hq => exact hq.elim
    | .ok .cont, hq => exact hq.elim
    | .ok (.ret u), hq => exact Inv.after I hq
end
/-- a def that may be called by its name, where no repr is under way -/
structure ClG (W : Wd) (k : Nat) (x : Str) (sp : Sp) : Prop where
  ex : ∃ (f : Addr) (fd : FuncData) (ps : List Str), FnG W.P W.w W.K W.mg W.base k f fd ps sp ∧ W.mg x = some (.ref f) ∧ PySem.W.keepIn W.K (.ref f) = true ∧ Binds W.K fd ps []
/-- a body that may show lists -/
def BodyG (W : Wd) (k : Nat) (N : List Str) (qual : Str) (st : Stmt) (sp : Sp) : Prop :=
  ∀ (f : Addr) (cdv : Value) (A : Around) (outer : List Env) (s : Shared) (H : Hp) (vs : List V) (Q : VK) (E : XK), Room k (A.deeper (envOfC qual (defScope st) s.heap.objs.size f cdv)) → (A.deeper (envOfC qual (defScope st) s.heap.objs.size f cdv)).guards = some [] → sp vs H Q E →
      ∃ t, PSs (cxOf CX0 W.P W.w W.K W.mg W.base N qual (defScope st) f cdv A outer s H E).nox (defBody st) t ∧ t { nx := fun _ H' => Q .non H', rt := Q } (start N vs) H
theorem fng_fun {W : Wd} {k : Nat} {x qual : Str} {st : Stmt} {f : Addr} {fd : FuncData} {N ps : List Str} {sp : Sp} (F : L2.Fun W.K x qual st f fd) (S : FnScope N ps (defScope st)) (len : ∀ vs H Q E, sp vs H Q E → vs.length = ps.length) (hbody : BodyG W k N qual st sp) : FnG W.P W.w W.K W.mg W.base (k + 1) f fd ps sp := by
  obtain ⟨oc, od, kV, doc, pm, an, cdv, ct, osl, rfl, lk, hcd⟩ := F.ex
  refine fng_of lk hcd S len fun A outer s H vs Q E hr hg hsp => ?_
  obtain ⟨t, h, q⟩ := hbody f cdv A outer s H vs Q E hr hg hsp
  exact ⟨t, h.nox, q⟩
theorem clg_of {W : Wd} {k : Nat} {x : Str} {st : Stmt} {N ps : List Str} {sp : Sp} (g : GF W.K W.mg x st) (S : FnScope N ps (defScope st)) (hb : BindOk x x st ps) (len : ∀ vs H Q E, sp vs H Q E → vs.length = ps.length) (hbody : BodyG W k N x st sp) : ClG W (k + 1) x sp := by
  obtain ⟨f, fd, F, hm⟩ := g.ex
  exact ⟨f, fd, ps, fng_fun F S len hbody, hm, F.kp, F.binds hb⟩
section
variable {X : Cx} {k j : Nat} {x : Str} {sp : Sp} {p pos : Pos} {e : Expr} {es : List Expr} {t : TA}
theorem pe_clG (c : ClG ⟨X.prog, X.w, X.K, X.mg, X.base⟩ k x sp) (hr : Room j X.A) (hgd : X.A.guards = some []) (hk : k ≤ j) (hg : Gl X x) (ha : PA X (e :: es) t)
    (hdb : (x == ("__debug__" : Str)) = false := by decide) (he : starEach (e :: es) X.env = (false, eval e X.env) :: starEach es X.env := by rfl) (hpl : (backTo pos (starEach es X.env)).any (·.1) = false := by rfl) :
    PE X (.Call (.Name x p) (e :: es) [] pos) (tCall sp [] E0 t) := by
  obtain ⟨f, fd, ps, F, hm, kp, b⟩ := c.ex
  refine ⟨fun pins s σ H Q I h => wpAny_Call_Name_kw (ld_glob I hg hm (PySem.W.callWith_K I.ok.mod.kin kp (thn (ha.run pos pins s σ H _ I h) fun us s1 x => ?_) he hpl) hdb)⟩
  obtain ⟨vs, H1, I1, r, q⟩ := x
  rw [List.append_nil] at q
  exact ⟨I1.kIn, run_fng F (hr.mono hk) hgd b I1 r q⟩
/-- repr of a list or a tuple of plain data -/
def rReprD (K : PySem.W.Frag) : List V → Hp → VK → Prop := fun xs H Q => ∃ (a : Addr) (d : PyData), xs = [.ref a] ∧ Dp K H (.ref a) d ∧ d.showable = true ∧ d.hasDict = false ∧ d.depth ≤ 40 ∧ d.shown.length ≤ sizeLine ∧ Q (.str d.shown) H
end
end Ly
namespace Ly
open PySem PySem.Spec PyProof.Rows L2
end Ly
namespace Ly
open PySem PySem.Spec PyProof.Rows L2
/-- a class below a built-in exception -/
structure ExG (K : PySem.W.Frag) (C : Addr) (B newId initId : String) (bmB : List Value) : Prop where
  fb : ExcBaseFacts B newId initId bmB
  sf : StoreFacts B bmB "object.__setattr__" "object"
  xi : PySem.W.excInitIn K C bmB newId = true
  ov : PySem.W.excOver K C bmB = true
structure ExK (K : PySem.W.Frag) (C : Addr) : Prop where
  ex : ∃ B newId initId bmB, ExG K C B newId initId bmB
  hd : PySem.W.hasDictIn K C = true
  sa : PySem.W.findIn K (.ref C) "__setattr__" = some (some (.builtin "object.__setattr__"))
  ga : PySem.W.findIn K (.ref C) "__getattribute__" = some (some (.builtin "BaseException.__getattribute__"))
  gg : PySem.W.findIn K (.ref C) "__getattr__" = some none
  exC : PySem.W.subIn K (.ref C) (.type "BaseException") = some true
  kC : PySem.W.keepIn K (.ref C) = true
  ha : PySem.W.findIn K (.ref C) "__class__" = some (some (.builtin "object.__class__"))
  hn : PySem.W.specialIn K (.builtin "object.__class__") "__get__" = some (some (.builtin "getset_descriptor.__get__"))
  ht : PySem.W.takesIn K (.builtin "object.__class__") = some true
  hm : PySem.W.mroIn K C (.type "object") = some true
section
variable {X : Cx} {pins : List (Addr × Obj)} {σ : L2.St} {H : Hp} {s : Shared} {a C dx : Addr} {f : Str} {y : V} {u : Value} {fs : List (Str × V)} {Q : Unit → Shared → Prop} {E : Value → Shared → Prop} {A : Around}
theorem xtaker {K : PySem.W.Frag} (h : PySem.W.findIn K (.ref C) f = some none) : PySem.W.takerIn K C f = some none := by
  unfold PySem.W.takerIn
  rw [h]
  rfl
theorem xst_new (T : ExK X.K C) (I : Inv X pins σ H s) (e : H a = some (exo a C none)) (hno : PySem.W.findIn X.K (.ref C) f = some none) (ry : RelV y u)
    (h : ∀ d s', H d = none → d ≠ a → Inv X pins σ (upd (upd (upd H d (exd d [])) a (exo a C (some d))) d (exd d [(f, y)])) s' → Q () s') : wpAny (model X.prog X.w) A (setAttr (.ref a) f u) Q E s := by
  obtain ⟨B, newId, initId, bmB, G⟩ := T.ex
  obtain ⟨t1, ho⟩ := exo_at I.hok e
  obtain ⟨cd, hcd, hhd⟩ := PySem.W.any_some T.hd
  obtain ⟨hp, g, d, t, os⟩ := s
  have hsz : a ≠ hp.objs.size := Nat.ne_of_lt (Heap.lt_size ho)
  refine PySem.W.set_plain I.kIn (od := none) ⟨ho, rfl, rfl, trivial⟩ T.sa ?_
  refine PySem.W.osa_openX (od := none) G.sf I.kIn ⟨ho, rfl, rfl, trivial⟩ G.ov (xtaker hno) fun b => ?_
  refine wpAny_bind (wpAny_pure (wpAny_bind (PySem.W.instanceDict_exc ho (PySem.W.looks_clsIn I.kIn hcd) hhd ?_)))
  have hpush : ∀ b o, hp.get? b = some o → (hp.push (PySem.W.dictOf [] 0)).get? b = some o := fun b o z => Heap.get?_push_of_some _ z
  have hnew : (hp.push (PySem.W.dictOf [] 0)).get? hp.objs.size = some (PySem.W.dictOf [] 0) := Heap.get?_push_at rfl rfl
  have ns0 : (hp.push (PySem.W.dictOf [] 0)).Ns hp.objs.size (fun _ => none) := ⟨_, #[], _, hnew, rfl, fun _ z => absurd z (by simp), fun _ => rfl⟩
  have J1 := I.laid (t' := t + 1) (o := exd hp.objs.size []) hpush (Nat.le_refl _) (exd_ok (Heap.Ns1.of_empty ns0) fun _ => True.intro)
  have nH : H hp.objs.size = none := I.hok.fresh (Nat.le_refl _)
  have e1 : upd H hp.objs.size (exd hp.objs.size []) a = some (exo a C none) := by rw [upd_ne hsz, e]
  have hx2 := Heap.get?_update_self (fun o => { o with dict := some hp.objs.size }) (hpush _ _ ho) rfl
  have k2 : ∀ b o, b ≠ a → (hp.push (PySem.W.dictOf [] 0)).get? b = some o → ((hp.push (PySem.W.dictOf [] 0)).update a fun o => { o with dict := some hp.objs.size }).get? b = some o := fun b o hb z => by rw [Heap.get?_update_other _ _ (Ne.symm hb)]; exact z
  have J2 := J1.write (t' := t + 1) (x := a) (e := a) (o := exo a C (some hp.objs.size)) (by rw [e1]; exact True.intro) (.inl rfl) k2 ⟨_, hx2⟩ (exo_ok hx2)
  have ns2 : ((hp.push (PySem.W.dictOf [] 0)).update a fun o => { o with dict := some hp.objs.size }).Ns hp.objs.size (fun _ => none) := by
    obtain ⟨o, es, ep, z1, z2⟩ := ns0
    exact ⟨o, es, ep, k2 _ _ (Ne.symm hsz) z1, z2⟩
  refine PySem.HandSPX.store_in_new ns2 fun h' tk' hn hs => ?_
  have ed : upd (upd H hp.objs.size (exd hp.objs.size [])) a (exo a C (some hp.objs.size)) hp.objs.size = some (exd hp.objs.size []) := by rw [upd_ne (Ne.symm hsz), upd_same]
  have hd' : ∃ o, h'.get? hp.objs.size = some o := by
    obtain ⟨o, _, _, z, _⟩ := hn
    exact ⟨o, z⟩
  have J3 := J2.write (t' := tk') (h' := h') (x := hp.objs.size) (e := hp.objs.size) (o := exd hp.objs.size [(f, y)]) (by rw [ed]; exact True.intro) (.inl rfl) (fun b o hb z => (hs.2 b hb).trans z) hd' (exd_ok hn (relO_put (fs := []) ry fun _ => True.intro))
  exact h _ _ nH (Ne.symm hsz) J3
theorem idict_some {M : Model} {x t1 : Addr} {cd : ClassData} {s : Shared} {A : Around} {E : Value → Shared → Prop} {Q : Option Addr → Shared → Prop} (hx : s.heap.get? x = some { cls := .ref C, dict := some dx, data := .fields #[.ref t1, .none, .none, .none, .bool false, .none] })
    (Lc : PySem.W.Looks M s.heap (classData C) cd) (hd : cd.hasDict = true) (h : Q (some dx) s) : wpAny M A (instanceDict x true) Q E s := by
  unfold instanceDict
  refine wpAny_bind (wpAny_loadPart hx ?_)
  refine wpAny_bind (Lc.here ?_)
  simp only [hd, Bool.not_true, Bool.false_eq_true, if_false]
  exact wpAny_pure h
theorem xst_old (T : ExK X.K C) (I : Inv X pins σ H s) (e : H a = some (exo a C (some dx))) (ed : H dx = some (exd dx fs)) (hl : fs.length ≤ 900) (hno : PySem.W.findIn X.K (.ref C) f = some none) (ry : RelV y u)
    (h : ∀ s', Inv X pins σ (upd H dx (exd dx ((f, y) :: fs))) s' → Q () s') : wpAny (model X.prog X.w) A (setAttr (.ref a) f u) Q E s := by
  obtain ⟨B, newId, initId, bmB, G⟩ := T.ex
  obtain ⟨t1, ho⟩ := exo_at I.hok e
  obtain ⟨mA, hns, rel⟩ := exd_at I.hok ed
  obtain ⟨cd, hcd, hhd⟩ := PySem.W.any_some T.hd
  have hw := within_of rel
  obtain ⟨hp, g, d, t, os⟩ := s
  obtain ⟨oD, _, _, hoD, _, _⟩ := hns.count hw
  have J : PySem.W.InstAt hp a { cls := .ref C, dict := some dx, data := .fields #[.ref t1, .none, .none, .none, .bool false, .none] } C (some oD) := ⟨ho, rfl, rfl, hoD⟩
  refine PySem.W.set_plain I.kIn J T.sa (PySem.W.osa_openX G.sf I.kIn J G.ov (xtaker hno) fun b => ?_)
  refine wpAny_bind (wpAny_pure (wpAny_bind (idict_some ho (PySem.W.looks_clsIn I.kIn hcd) hhd ?_)))
  refine PySem.OEX.store_in_old hns hw (by rw [List.length_map]; omega) fun h' tk' hn hs => ?_
  have hd' : ∃ o, h'.get? dx = some o := by
    obtain ⟨o, _, _, z, _⟩ := hn
    exact ⟨o, z⟩
  exact h _ (I.write (t' := tk') (h' := h') (x := dx) (e := dx) (o := exd dx ((f, y) :: fs)) (by rw [ed]; exact True.intro) (.inl rfl) (fun b o hb z => (hs.2 b hb).trans z) hd' (exd_ok hn (relO_put ry rel)))
end
/-- self.f = e, a field of an exception that is being made -/
def tXst (K : PySem.W.Frag) (f : Str) (to te : TE) : TS := fun D σ H => te σ H fun y H1 => to σ H1 fun x H2 => ∃ a C : Addr, x = .ref a ∧ ExK K C ∧ PySem.W.findIn K (.ref C) f = some none ∧
  ((H2 a = some (exo a C none) ∧ ∀ d, H2 d = none → d ≠ a → D.nx σ (upd (upd (upd H2 d (exd d [])) a (exo a C (some d))) d (exd d [(f, y)]))) ∨
    ∃ (d : Addr) (fs : List (Str × V)), H2 a = some (exo a C (some d)) ∧ H2 d = some (exd d fs) ∧ fs.length ≤ 900 ∧ D.nx σ (upd H2 d (exd d ((f, y) :: fs))))
section
variable {X : Cx} {o e : Expr} {to te : TE} {f : Str} {p' pos : Pos}
theorem ps_xst (ho : PE X o to) (he : PE X e te) (hs : swapsWith e (some (.Attribute o f p')) pos.line X.env = pure false := by rfl) : PS X (.Assign [.Attribute o f p'] e pos) (tXst X.K f to te) := by
  refine ⟨fun pins s σ H D I h => plainObj_wpAny_Assign_Attribute (thn (he.run pins s σ H _ I h) fun v s1 ⟨y, H1, I1, r1, q1⟩ => thn (ho.run pins s1 σ H1 _ I1 q1) fun u s2 hh => ?_) hs⟩
  obtain ⟨x, H2, I2, r2, a, C, rfl, T, hno, q⟩ := hh
  cases r2
  rcases q with ⟨ea, q⟩ | ⟨d, fs, ea, ed, hl, q⟩
  · exact xst_new T I2 ea hno r1 fun d s' n ne J => ⟨σ, _, J, q d n ne⟩
  · exact xst_old T I2 ea ed hl hno r1 fun s' J => ⟨σ, _, J, q⟩
end
/-- the reading of e.f, e an exception that is held -/
def tXf (K : PySem.W.Frag) (f : Str) (te : TE) : TE := fun σ H Q => te σ H fun x H1 => ∃ (a C d : Addr) (fs : List (Str × V)) (v : V), x = .ref a ∧ ExK K C ∧ PySem.W.findIn K (.ref C) f = some none ∧ H1 a = some (exo a C (some d)) ∧ H1 d = some (exd d fs) ∧ fs.lookup f = some v ∧ Q v H1
section
open Builtin Builtin.ObjectAttr
variable {prog : Program} {w : World} {A : Around} {E : Value → Shared → Prop} {R : Result → Shared → Prop} {h : Heap} {g : Array GenState} {d : Drawn} {t : Nat} {os : OsState} {M : Model}
variable {nm q : Str} {C N : Addr} {bs bm bmB : List Value} {hdct : Bool} {sn : List Str} {sub : List Value} {ab : Bool} {col : Option Bool} {dd : Option Addr} {k0 k1 k2 k3 k5 : Option Value} {B newId initId : String} {rest : List Value} {kws : List (Str × Value)}
theorem xck_new (F : ExcBaseFacts B newId initId bmB) (hT : ∀ X : String, bm.contains (.type X) = bmB.contains (.type X)) {Q : Unit → Shared → Prop} (hC : h.get? C = some (excClassObj nm q C N bs bm hdct sn sub ab col dd k0 k1 k2 k3 k5 newId))
    (hq : Q () ⟨h, g, d, t, os⟩) : wpAny M A (checkBuiltinCall newId ⟨.ref C :: rest, kws⟩) Q E ⟨h, g, d, t, os⟩ := by
  have c1 : (Value.ref C :: bm).contains (.type B) = true := by
    rw [List.contains_cons, hT, F.hasB, Bool.or_true]
  have c2 := F.noStar
  simp only [checkBuiltinCall, F.newKind, F.newSplit, F.newRow]
  repeat (first | with_reducible refine wpAny_loadPart_at hC ?_ | (with_reducible refine wpAny_isSubtype_exc hC ?_; rw [c1]) | with_reducible refine wpAny_staticBase_exc hC ?_ | with_reducible refine wpAny_madeBy_exc hC ?_ | simp only [bne_self_eq_false, Bool.false_eq_true, if_false] | wp_step)
  exact hq
theorem xnew (F : ExcBaseFacts B newId initId bmB) (hT : ∀ X : String, bm.contains (.type X) = bmB.contains (.type X)) (hC : h.get? C = some (excClassObj nm q C N bs bm hdct sn sub ab col dd k0 k1 k2 k3 k5 newId)) (hrest : rest.length ≤ sizeLine)
    (hq : R (.ok (.ret (.ref (h.objs.size + 1)))) ⟨(h.push (PySem.W.kdv_tup rest)).push (HandSPX.excO C h.objs.size), g, d, t, os⟩) : codeAny (model prog w) A (.builtin newId ⟨.ref C :: rest, kws⟩) R ⟨h, g, d, t, os⟩ := by
  have c0 := F.ends
  have c1 : (Value.ref C :: bm).contains (.type B) = true := by
    rw [List.contains_cons, hT, F.hasB, Bool.or_true]
  have c2 : (Value.ref C :: bm).contains (.type "AttributeError") = false := by
    rw [List.contains_cons, hT, F.noAttr]
    rfl
  have c3 : (Value.ref C :: bm).contains (.type "NameError") = false := by
    rw [List.contains_cons, hT, F.noName]
    rfl
  refine codeAny_builtinAt F.entry ?_
  unfold Builtin.«BaseException.__new__»
  refine PySem.wpAt_bind (?_ : PySem.wpAt _ _ _ (stack >>= _) _ _ _)
  refine PySem.wpAt_bind (PySem.wpAt_stack fun p below => PySem.wpAt_of_wpAny ?_)
  wp_walk
  refine PySem.wpAt_of_wpAny ?_
  rw [F.owner]
  repeat (first | with_reducible refine wpAny_madeHere_exc F.canon hC ?_ | with_reducible refine wpAny_loadPart_at hC ?_ | (with_reducible refine wpAny_isSubtype_exc hC ?_; first | rw [c1] | rw [c2] | rw [c3]) | wp_step)
  show R _ _
  rw [Heap.size_push]
  exact hq
theorem xtype (F : ExcBaseFacts B newId initId bmB) (hT : ∀ X : String, bm.contains (.type X) = bmB.contains (.type X)) {fI : Addr} {Q : Fin → Shared → Prop} (hC : h.get? C = some (excClassObj nm q C N bs bm hdct sn sub ab col dd k0 k1 k2 k3 k5 newId)) (hrest : rest.length ≤ sizeLine)
    (hi : PySem.W.Looks (model prog w) h (typeLookup (.ref C) "__init__") (some (.ref fI))) (hb : ∀ self, PySem.W.Looks (model prog w) h (bindSpecial (.ref fI) self) (.ref fI, [self]))
    (hq : codeAny (model prog w) A (.call (.ref fI) ⟨.ref (h.objs.size + 1) :: rest, kws⟩)
      (fun r s' => match r with | .ok (.ret v) => v = .none ∧ Q (.done (.ret (.ref (h.objs.size + 1)))) s' | .ok _ => False | .error e => E e s') ⟨(h.push (PySem.W.kdv_tup rest)).push (HandSPX.excO C h.objs.size), g, d, t, os⟩) :
    wpAny (model prog w) A (Builtin.«type.__call__» ⟨.ref C :: rest, kws⟩) Q E ⟨h, g, d, t, os⟩ := by
  repeat (first | with_reducible refine wpAny_loadPart_at hC ?_ | with_reducible refine wpAny_madeBy_exc hC ?_ | wp_step)
  refine codeAny_call_builtin_code (Code.quiet_builtin _ F.quiet) (xck_new F hT hC (xnew F hT hC hrest (?_ : wpAny _ _ _ _ _ _)))
  have k : ∀ b o, h.get? b = some o → ((h.push (PySem.W.kdv_tup rest)).push (HandSPX.excO C h.objs.size)).get? b = some o := fun b o z => Heap.get?_push_of_some _ (Heap.get?_push_of_some _ z)
  have c1 := k _ _ hC
  have c2 : ((h.push (PySem.W.kdv_tup rest)).push (HandSPX.excO C h.objs.size)).get? (h.objs.size + 1) = some (HandSPX.excO C h.objs.size) := by heap_get
  have c3 : (Value.ref C :: bm).contains (.ref C) = true := by simp
  have i1 := hi.keeps k
  have i2 := (hb (.ref (h.objs.size + 1))).keeps k
  unfold isInstance
  repeat (first | with_reducible refine wpAny_loadPart_at c2 ?_ | (with_reducible refine wpAny_isSubtype_exc c1 ?_; rw [c3]) | wp_step)
  refine (i1.at ?_ : wpAny _ _ (typeLookup (.ref C) _) _ _ _)
  refine wpAny_holding (wpAny_bind (i2.at (wpAny_bind (wpAny_call (codeAny_mono hq fun r s' z => ?_)))))
  cases r with
  | error e => exact z
  | ok fl =>
    cases fl with
    | ret v =>
      obtain ⟨rfl, z⟩ := z
      first | exact wpAny_pure (wpAny_pure z) | (wp_walk; exact z)
    | next => exact z.elim
    | brk => exact z.elim
    | cont => exact z.elim
theorem xck_type {Q : Unit → Shared → Prop} (hC : h.get? C = some (excClassObj nm q C N bs bm hdct sn sub ab col dd k0 k1 k2 k3 k5 newId)) (hq : Q () ⟨h, g, d, t, os⟩) : wpAny M A (checkBuiltinCall "type.__call__" ⟨.ref C :: rest, kws⟩) Q E ⟨h, g, d, t, os⟩ := by
  have c1 := tc_sub
  have c2 : (⟨h, g, d, t, os⟩ : Shared).TypeIs (.ref C) "type" := ⟨_, hC, rfl⟩
  simp only [checkBuiltinCall, tc_kind, tc_split]
  repeat (any_goals (first | assumption | with_reducible refine wpAny_loadPart_at hC ?_ | with_reducible refine wpAny_onRaise ?_ | with_reducible refine wpAny_map ?_ | wp_step))
theorem xcall (F : ExcBaseFacts B newId initId bmB) (hT : ∀ X : String, bm.contains (.type X) = bmB.contains (.type X)) {fI : Addr} (hC : h.get? C = some (excClassObj nm q C N bs bm hdct sn sub ab col dd k0 k1 k2 k3 k5 newId)) (hrest : rest.length ≤ sizeLine)
    (hi : PySem.W.Looks (model prog w) h (typeLookup (.ref C) "__init__") (some (.ref fI))) (hb : ∀ self, PySem.W.Looks (model prog w) h (bindSpecial (.ref fI) self) (.ref fI, [self]))
    (hq : codeAny (model prog w) (A.under (.builtin "type.__call__" ⟨.ref C :: rest, kws⟩)) (.call (.ref fI) ⟨.ref (h.objs.size + 1) :: rest, kws⟩) (PySem.W.InitBack (h.objs.size + 1) R)
      ⟨(h.push (PySem.W.kdv_tup rest)).push (HandSPX.excO C h.objs.size), g, d, t, os⟩) : codeAny (model prog w) A (.call (.ref C) ⟨rest, kws⟩) R ⟨h, g, d, t, os⟩ := by
  have f1 := tc_lookup
  have f2 := tc_bind (.ref C)
  have f3 : (⟨h, g, d, t, os⟩ : Shared).TypeIs (.ref C) "type" := ⟨_, hC, rfl⟩
  refine codeAny_of_tree (?_ : wpAny _ _ (callAny (.ref C) _) _ _ _)
  repeat (any_goals (first | assumption | with_reducible refine wpAny_loadPart_at hC ?_ | wp_step))
  refine ⟨rfl, codeAny_call_builtin_at (Code.quiet_builtin _ (by decide +kernel)) entry_typeCall (xck_type hC (xtype F hT hC hrest hi hb (codeAny_mono hq fun r s' z => ?_)))⟩
  rcases r with e | (v | _ | _ | _) <;> exact z
end
end Ly
namespace Ly
open PySem PySem.Spec PyProof.Rows L2
/-- the keywords' values, the last one first -/
def gRv {α : Type} (us ws : List α) : List α := us ++ ws.reverse
/-- a class of the program below a built-in exception, with an __init__ of its own -/
structure GX (K : PySem.W.Frag) (mg : Str → Option Value) (x : Str) (C : Addr) (qual : Str) (st : Stmt) : Prop where
  xk : ExK K C
  mg : mg x = some (.ref C)
  ex : ∃ (f : Addr) (fd : FuncData), L2.Fun K "__init__" qual st f fd ∧ PySem.W.findIn K (.ref C) "__init__" = some (some (.ref f)) ∧ PySem.W.typeIn K (.ref f) = some (.type "function")
structure XMak (W : Wd) (k : Nat) (x : Str) (C : Addr) (n : Nat) (ks : List Str) (sp : Sp) : Prop where
  xk : ExK W.K C
  mg : W.mg x = some (.ref C)
  ex : ∃ (f : Addr) (fd : FuncData) (ps : List Str), PySem.W.findIn W.K (.ref C) "__init__" = some (some (.ref f)) ∧ PySem.W.typeIn W.K (.ref f) = some (.type "function") ∧ FnOk W.P W.w W.K W.mg W.base CX0 k f fd ps sp ∧ KBn W.K fd ps (n + 1) ks gRv gRv
def XBindOk (qual : Str) (st : Stmt) (ps : List Str) (n : Nat) (ks : List Str) : Prop :=
  ∀ (kV doc pm : Value) (an : Option Addr) (cdv ct : Value) (us ws : List Value), us.length = n + 1 → ws.length = ks.length → bindArgs (PySem.W.fnOf "__init__" qual (defArgs st) (defBody st) (defScope st) .none kV doc pm an cdv ct) ⟨us, ks.zip ws⟩ = pure (ps.zip (gRv us ws))
theorem vals_rev : ∀ {vs : List V} {us : List Value}, Vals vs us → Vals vs.reverse us.reverse := fun {vs us} h => by
  induction h with
  | nil => exact .nil
  | cons h _ ih =>
    rw [List.reverse_cons, List.reverse_cons]
    exact ih.append (.cons h .nil)
theorem xmak_of {W : Wd} {k n : Nat} {x : Str} {C : Addr} {qual : Str} {st : Stmt} {N ps ks : List Str} {sp : Sp} (g : GX W.K W.mg x C qual st) (S : FnScope N ps (defScope st)) (hb : XBindOk qual st ps n ks) (len : ∀ vs H Q E, sp vs H Q E → vs.length = ps.length) (hbody : BodyOk W k N qual st sp) :
    XMak W (k + 1) x C n ks sp := by
  obtain ⟨f, fd, F, a, b⟩ := g.ex
  have F2 := F.ok S len (fun cdv A outer s H vs Q E => hbody f cdv A outer s H vs Q E)
  obtain ⟨oc, od, kV, doc, pm, an, cdv, ct, osl, rfl, lk, hcd⟩ := F.ex
  exact ⟨g.xk, g.mg, f, _, ps, a, b, F2, ⟨fun s us ws _ l1 l2 => .of_eq (hb kV doc pm an cdv ct us ws l1 l2), fun r1 r2 => r1.append (vals_rev r2)⟩⟩
/-- at a: an exception of class C with these fields -/
def ExAt (H : Hp) (a C : Addr) (fs : List (Str × V)) : Prop := (fs = [] ∧ H a = some (exo a C none)) ∨ ∃ d, H a = some (exo a C (some d)) ∧ H d = some (exd d fs)
/-- __init__(self, y): self.f = y -/
def spX1 (C : Addr) (f : Str) : Sp := fun vs H Q _ => ∃ (a : Addr) (y : V), vs = [.ref a, y] ∧ H a = some (exo a C none) ∧ ∀ d, H d = none → d ≠ a → Q .non (upd (upd (upd H d (exd d [])) a (exo a C (some d))) d (exd d [(f, y)]))
end Ly
namespace Dt
open PySem PySem.Spec PyProof.Rows L2 Ly
inductive D where
  | int (i : Int) | bl (b : Bool) | non | str (s : Str)
  | lst (xs : List D) | tup (xs : List D)
  | dct (kv : List (Key × D)) | dcT (kv : List (List Key × D))
  | obj (C : Addr) (fs : List (Str × D))
mutual
inductive At (H : Hp) : V → D → Prop
  | int (i : Int) : At H (.int i) (.int i)
  | bl (b : Bool) : At H (.bl b) (.bl b)
  | non : At H .non .non
  | str (s : Str) : At H (.str s) (.str s)
  | lst {p : Addr} {xs : List V} {ds : List D} (h : H p = some (.lst xs)) (a : Ats H xs ds) : At H (.ref p) (.lst ds)
  | tup {p : Addr} {xs : List V} {ds : List D} (h : H p = some (.tup xs)) (a : Ats H xs ds) : At H (.ref p) (.tup ds)
  | dct {p : Addr} {kv : List (Key × V)} {kd : List (Key × D)} (h : Rd H p (.dK kv)) (e : kv.map (·.1) = kd.map (·.1)) (a : Ats H (kv.map (·.2)) (kd.map (·.2))) : At H (.ref p) (.dct kd)
  | dcT {p : Addr} {kv : List (List Key × V)} {kd : List (List Key × D)} (h : Rd H p (.dT kv)) (e : kv.map (·.1) = kd.map (·.1)) (a : Ats H (kv.map (·.2)) (kd.map (·.2))) : At H (.ref p) (.dcT kd)
  | obj {p C dx : Addr} {fs : List (Str × V)} {fd : List (Str × D)} (h : H p = some (.ins C dx fs)) (e : fs.map (·.1) = fd.map (·.1)) (a : Ats H (fs.map (·.2)) (fd.map (·.2))) : At H (.ref p) (.obj C fd)
inductive Ats (H : Hp) : List V → List D → Prop
  | nil : Ats H [] []
  | cons {x : V} {d : D} {xs : List V} {ds : List D} (h : At H x d) (t : Ats H xs ds) : Ats H (x :: xs) (d :: ds)
end
/-- all that is known of one heap is known of the other; a dict may be locked -/
structure Mo (H H' : Hp) : Prop where
  one : ∀ a o, H a = some o → (∀ kv, o ≠ .dK kv) → (∀ kv, o ≠ .dT kv) → (∀ u w, o ≠ .frz u w) → H' a = some o
  dK : ∀ a kv, Rd H a (.dK kv) → Rd H' a (.dK kv)
  dT : ∀ a kv, Rd H a (.dT kv) → Rd H' a (.dT kv)
theorem Mo.refl (H : Hp) : Mo H H := ⟨fun _ _ e _ _ _ => e, fun _ _ e => e, fun _ _ e => e⟩
theorem Mo.trans {H H1 H2 : Hp} (s : Mo H H1) (t : Mo H1 H2) : Mo H H2 := ⟨fun a o e x y z => t.one a o (s.one a o e x y z) x y z, fun a kv e => t.dK a kv (s.dK a kv e), fun a kv e => t.dT a kv (s.dT a kv e)⟩
theorem Mo.of {H H' : Hp} (s : ∀ a o, H a = some o → H' a = some o) : Mo H H' :=
  ⟨fun a o e _ _ _ => s a o e, fun a kv e => e.elim (fun e => .inl (s _ _ e)) fun ⟨o, e⟩ => .inr ⟨o, s _ _ e⟩, fun a kv e => e.elim (fun e => .inl (s _ _ e)) fun ⟨o, e⟩ => .inr ⟨o, s _ _ e⟩⟩
mutual
theorem At.mono {H H' : Hp} {v : V} {d : D} (s : Mo H H') : At H v d → At H' v d
  | .int i => .int i
  | .bl b => .bl b
  | .non => .non
  | .str x => .str x
  | .lst h a => .lst (s.one _ _ h (fun _ z => by cases z) (fun _ z => by cases z) (fun _ _ z => by cases z)) (a.mono s)
  | .tup h a => .tup (s.one _ _ h (fun _ z => by cases z) (fun _ z => by cases z) (fun _ _ z => by cases z)) (a.mono s)
  | .dct h e a => .dct (s.dK _ _ h) e (a.mono s)
  | .dcT h e a => .dcT (s.dT _ _ h) e (a.mono s)
  | .obj h e a => .obj (s.one _ _ h (fun _ z => by cases z) (fun _ z => by cases z) (fun _ _ z => by cases z)) e (a.mono s)
theorem Ats.mono {H H' : Hp} {vs : List V} {ds : List D} (s : Mo H H') : Ats H vs ds → Ats H' vs ds
  | .nil => .nil
  | .cons h t => .cons (h.mono s) (t.mono s)
end
theorem Ats.length {H : Hp} : ∀ {vs : List V} {ds : List D}, Ats H vs ds → vs.length = ds.length
  | _, _, .nil => rfl
  | _, _, .cons _ t => congrArg (· + 1) t.length
theorem Ats.get {H : Hp} : ∀ {vs : List V} {ds : List D} {i : Nat} {d : D}, Ats H vs ds → ds[i]? = some d → ∃ v, vs[i]? = some v ∧ At H v d
  | _, _, _, _, .nil, e => by simp at e
  | _, _, 0, _, .cons h _, e => by simp at e; subst e; exact ⟨_, rfl, h⟩
  | _, _, i + 1, d, .cons _ t, e => by
    obtain ⟨v, h1, h2⟩ := t.get (i := i) (d := d) (by simpa using e)
    exact ⟨v, by simpa using h1, h2⟩
theorem Ats.got {H : Hp} : ∀ {vs : List V} {ds : List D} {i : Nat} {v : V}, Ats H vs ds → vs[i]? = some v → ∃ d, ds[i]? = some d ∧ At H v d
  | _, _, _, _, .nil, e => by simp at e
  | _, _, 0, _, .cons h _, e => by simp at e; subst e; exact ⟨_, rfl, h⟩
  | _, _, i + 1, v, .cons _ t, e => by
    obtain ⟨d, h1, h2⟩ := t.got (i := i) (v := v) (by simpa using e)
    exact ⟨d, by simpa using h1, h2⟩
theorem Ats.append {H : Hp} : ∀ {vs ws : List V} {ds es : List D}, Ats H vs ds → Ats H ws es → Ats H (vs ++ ws) (ds ++ es)
  | _, _, _, _, .nil, b => b
  | _, _, _, _, .cons h t, b => .cons h (t.append b)
theorem Ats.snoc {H : Hp} {vs : List V} {ds : List D} {v : V} {d : D} (a : Ats H vs ds) (h : At H v d) : Ats H (vs ++ [v]) (ds ++ [d]) := a.append (.cons h .nil)
theorem Ats.of {H : Hp} : ∀ {vs : List V} {ds : List D}, vs.length = ds.length → (∀ (i : Nat) (v : V) (d : D), vs[i]? = some v → ds[i]? = some d → At H v d) → Ats H vs ds
  | [], [], _, _ => .nil
  | [], _ :: _, h, _ => by cases h
  | _ :: _, [], h, _ => by cases h
  | v :: vs, d :: ds, h, g => .cons (g 0 v d rfl rfl) (Ats.of (by simpa using h) fun i v d e1 e2 => g (i + 1) v d (by simpa using e1) (by simpa using e2))
theorem Ats.take {H : Hp} : ∀ {vs : List V} {ds : List D} (n : Nat), Ats H vs ds → Ats H (vs.take n) (ds.take n)
  | _, _, 0, _ => by simpa using Ats.nil
  | _, _, _ + 1, .nil => by simpa using Ats.nil
  | _, _, n + 1, .cons h t => by simpa using Ats.cons h (t.take n)
theorem Ats.drop {H : Hp} : ∀ {vs : List V} {ds : List D} (n : Nat), Ats H vs ds → Ats H (vs.drop n) (ds.drop n)
  | _, _, 0, a => by simpa using a
  | _, _, _ + 1, .nil => by simpa using Ats.nil
  | _, _, n + 1, .cons h t => by simpa using t.drop n
theorem Ats.set {H : Hp} : ∀ {vs : List V} {ds : List D} {v : V} {d : D} (n : Nat), At H v d → Ats H vs ds → Ats H (vs.set n v) (ds.set n d)
  | _, _, _, _, _, _, .nil => .nil
  | _, _, _, _, 0, h, .cons _ t => .cons h t
  | _, _, _, _, n + 1, h, .cons g t => .cons g (t.set n h)
theorem Ats.reverse {H : Hp} : ∀ {vs : List V} {ds : List D}, Ats H vs ds → Ats H vs.reverse ds.reverse
  | _, _, .nil => .nil
  | _, _, .cons h t => by
    rw [List.reverse_cons, List.reverse_cons]
    exact t.reverse.snoc h
abbrev Xs := Addr → Prop
open Classical in
noncomputable def cut (X : Xs) (H : Hp) : Hp := fun a => if X a then none else H a
theorem cut_of {X : Xs} {H : Hp} {a : Addr} {o : HO} (n : ¬ X a) (h : H a = some o) : cut X H a = some o := by
  unfold cut
  rw [if_neg n]
  exact h
theorem of_cut {X : Xs} {H : Hp} {a : Addr} {o : HO} (h : cut X H a = some o) : ¬ X a ∧ H a = some o := by
  unfold cut at h
  by_cases x : X a
  · rw [if_pos x] at h
    cases h
  · rw [if_neg x] at h
    exact ⟨x, h⟩
theorem cut_sm {X : Xs} {H : Hp} : Mo (cut X H) H := .of fun _ _ e => (of_cut e).2
theorem cut_less {X X' : Xs} {H : Hp} (h : ∀ a, X' a → X a) : Mo (cut X H) (cut X' H) := .of fun _ _ e => cut_of (fun z => (of_cut e).1 (h _ z)) (of_cut e).2
/-- the excluded ones may grow by new ones; what is not excluded stays -/
theorem cut_keep {X X' : Xs} {H H' : Hp} (s : ∀ a o, ¬ X a → H a = some o → H' a = some o) (x : ∀ a o, ¬ X a → H a = some o → ¬ X' a) : Mo (cut X H) (cut X' H') :=
  .of fun a o e => cut_of (x a o (of_cut e).1 (of_cut e).2) (s a o (of_cut e).1 (of_cut e).2)
end Dt
namespace Dt
open PySem PySem.Spec PyProof.Rows L2 Ly
/-- a cell of a bundle: data, or a dict whose values are cells of the same bundle (told by their places) -/
inductive Ct where
  | pl (x : D) | dir (kv : List (Key × Nat))
/-- what a name or a result is: unknown; data that many may hold; a container that this name alone holds; a new one; the pot; a value as it is; a bundle that this name alone holds (as: the cells' addresses; the value is cell i); a new one -/
inductive Rv where
  | un | d (x : D) | own (p : Addr) (x : D) | new (x : D) | pot | raw (v : V)
  | cl (i : Nat) (as : List Addr) (cs : List Ct) | ncl (i : Nat) (cs : List Ct)
  | ex (a dd : Addr) (fds : List (Str × D))
/-- a caught exception at a, its fields at dd -/
def Exat (G : Hp) (v : V) (a dd : Addr) (fds : List (Str × D)) : Prop := v = .ref a ∧ ∃ fs, G dd = some (.xd fs) ∧ fs.map (·.1) = fds.map (·.1) ∧ Ats G (fs.map (·.2)) (fds.map (·.2))
theorem Exat.mono {G G' : Hp} {v : V} {a dd : Addr} {fds : List (Str × D)} (m : Mo G G') (h : Exat G v a dd fds) : Exat G' v a dd fds := by
  obtain ⟨e, fs, h1, h2, h3⟩ := h
  exact ⟨e, fs, m.one _ _ h1 (fun _ z => by cases z) (fun _ z => by cases z) (fun _ _ z => by cases z), h2, h3.mono m⟩
def AtO (X : Xs) (H : Hp) (p : Addr) : D → Prop
  | .lst ds => ∃ vs, H p = some (.lst vs) ∧ Ats (cut X H) vs ds
  | .dct kd => ∃ kv, H p = some (.dK kv) ∧ kv.map (·.1) = kd.map (·.1) ∧ Ats (cut X H) (kv.map (·.2)) (kd.map (·.2))
  | .dcT kd => ∃ kv, H p = some (.dT kv) ∧ kv.map (·.1) = kd.map (·.1) ∧ Ats (cut X H) (kv.map (·.2)) (kd.map (·.2))
  | .obj C fd => ∃ dx fs, H p = some (.ins C dx fs) ∧ fs.map (·.1) = fd.map (·.1) ∧ Ats (cut X H) (fs.map (·.2)) (fd.map (·.2))
  | _ => False
/-- the pot, and the tables of code objects (lambdas): what may change beneath -/
structure Po where
  pot : Option Addr
  tabs : List (Addr × Str)
abbrev no : Po := ⟨none, []⟩
def Mu (π : Po) (q : Addr) : Prop := π.pot = some q ∨ ∃ s, (q, s) ∈ π.tabs
/-- what stands of it -/
def Sf (π : Po) (H : Hp) (q : Addr) : Prop := (π.pot = some q → Pot H q) ∧ ∀ s, (q, s) ∈ π.tabs → LamX.TabS H q s
theorem Sf.mono {π : Po} {H H' : Hp} {q : Addr} (f : Sf π H q) (h : ∀ o, H q = some o → H' q = some o) (g : ∀ c s, H c = some (LamX.CodeO c s) → H' c = some (LamX.CodeO c s)) : Sf π H' q := by
  refine ⟨fun e => ?_, fun s e => ?_⟩
  · obtain ⟨a, b, h', z⟩ := f.1 e
    exact ⟨a, b, h _ h', z⟩
  · obtain ⟨ps, h1, h2, h3⟩ := f.2 s e
    refine ⟨ps, h _ h1, h2, fun pos cv hc => ?_⟩
    obtain ⟨c, e1, e2⟩ := h3 pos cv hc
    exact ⟨c, e1, g _ _ e2⟩
theorem Sf.same {π : Po} {H H' : Hp} {q : Addr} (f : Sf π H q) (h : ∀ a o, H a = some o → H' a = some o) : Sf π H' q := f.mono (h q) fun c s => h c _
theorem Sf.some {π : Po} {H : Hp} {q : Addr} (f : Sf π H q) (m : Mu π q) : H q ≠ none := by
  rcases m with e | ⟨s, e⟩
  · obtain ⟨a, b, h, _⟩ := f.1 e
    rw [h]
    exact fun z => by cases z
  · obtain ⟨ps, h, _⟩ := f.2 s e
    rw [h]
    exact fun z => by cases z
/-- no code object -/
def Nco (o : Option HO) : Prop := ∀ c s, o ≠ some (LamX.CodeO c s)
theorem nco_none : Nco none := fun _ _ z => by cases z
theorem nco_of {o : HO} (h : ∀ (f : Heap → Prop), o ≠ .ext f) : Nco (some o) := fun c s z => h _ (Option.some.inj z)
theorem nco_lst {xs : List V} : Nco (some (.lst xs)) := nco_of fun _ z => by cases z
theorem nco_tup {xs : List V} : Nco (some (.tup xs)) := nco_of fun _ z => by cases z
theorem nco_dK {xs : List (Key × V)} : Nco (some (.dK xs)) := nco_of fun _ z => by cases z
theorem nco_ins {C d : Addr} {xs : List (Str × V)} : Nco (some (.ins C d xs)) := nco_of fun _ z => by cases z
theorem Sf.upd {π : Po} {H : Hp} {p q : Addr} {o : HO} (f : Sf π H q) (n : q ≠ p) (hc : Nco (H p)) : Sf π (L2.upd H p o) q :=
  f.mono (fun u e => by rw [upd_ne n]; exact e) fun c s e => by
    rw [upd_ne (fun z => hc c s (by rw [← z]; exact e))]
    exact e
def plus (X : Xs) (p : Addr) : Xs := fun a => X a ∨ a = p
def plusL (X : Xs) (as : List Addr) : Xs := fun a => X a ∨ a ∈ as
def AtC (X : Xs) (H : Hp) (as : List Addr) (a : Addr) : Ct → Prop
  | .pl x => AtO X H a x
  | .dir kv => H a = some (.dK (kv.map fun e => (e.1, V.ref (as.getD e.2 0)))) ∧ ∀ e ∈ kv, e.2 < as.length
structure Bun (X : Xs) (H : Hp) (as : List Addr) (cs : List Ct) : Prop where
  nd : as.Nodup
  len : as.length = cs.length
  at_ : ∀ (i : Nat) (a : Addr) (c : Ct), as[i]? = some a → cs[i]? = some c → AtC X H as a c
def RAt (π : Po) (X : Xs) (H0 H : Hp) : Rv → V → Prop
  | .un, _ => True
  | .d x, v => At (cut X H) v x
  | .own p x, v => v = .ref p ∧ X p ∧ ¬ Mu π p ∧ AtO X H p x
  | .new x, v => ∃ p, v = .ref p ∧ H0 p = none ∧ AtO (plus X p) H p x
  | .pot, v => ∃ q, π.pot = some q ∧ v = .ref q
  | .raw w, v => v = w
  | .ex a dd fds, v => Exat (cut X H) v a dd fds
  | .cl i as cs, v => (∃ a, as[i]? = some a ∧ v = .ref a) ∧ (∀ a ∈ as, X a ∧ ¬ Mu π a) ∧ Bun X H as cs
  | .ncl i cs, v => ∃ as, (∃ a, as[i]? = some a ∧ v = .ref a) ∧ (∀ a ∈ as, H0 a = none) ∧ Bun (plusL X as) H as cs
structure Ok (π : Po) (X : Xs) (H : Hp) : Prop where
  dom : ∀ p, X p → H p ≠ none
  pot : ∀ q, Mu π q → X q ∧ Sf π H q
/-- what a piece of code leaves: all that was there but the pot -/
structure Kp (π : Po) (H H' : Hp) : Prop where
  keep : ∀ a o, ¬ Mu π a → H a = some o → H' a = some o
  pot : ∀ q, Mu π q → Sf π H' q
theorem Ok.kp {π : Po} {X : Xs} {H : Hp} (o : Ok π X H) : Kp π H H := ⟨fun _ _ _ e => e, fun q e => (o.pot q e).2⟩
theorem Kp.trans {π : Po} {H H1 H2 : Hp} (a : Kp π H H1) (b : Kp π H1 H2) : Kp π H H2 := ⟨fun c o n e => b.keep c o n (a.keep c o n e), b.pot⟩
theorem Kp.free {π : Po} {X : Xs} {H H' : Hp} (k : Kp π H H') {p : Addr} (o : Ok π X H) (e : H' p = none) : H p = none := by
  cases h : H p with
  | none => rfl
  | some u =>
    by_cases hp : Mu π p
    · exact absurd e ((k.pot p hp).some hp)
    · rw [k.keep p u hp h] at e
      cases e
theorem Kp.of_same {π : Po} {X : Xs} {H H' : Hp} (o : Ok π X H) (s : Same H H') : Kp π H H' := ⟨fun a u _ e => s a u e, fun q e => (o.pot q e).2.same s⟩
theorem mu_no {a : Addr} : ¬ Mu no a := fun z => z.elim (fun e => by cases e) fun ⟨s, e⟩ => nomatch e
theorem Kp.same {H H' : Hp} (k : Kp no H H') : Same H H' := fun a u e => k.keep a u mu_no e
/-- the pot alone has changed -/
theorem Kp.of_dr {π : Po} {X : Xs} {q : Addr} {H H' : Hp} (ok : Ok π X H) (hq : π.pot = some q) (d : Dr q H H') : Kp π H H' := by
  have hk : ∀ a o, a ≠ q → H a = some o → H' a = some o := fun a o n e => d.keep a o n e
  refine ⟨fun a o n e => hk a o (fun z => n (.inl (by rw [z]; exact hq))) e, fun p e => ?_⟩
  obtain ⟨_, f⟩ := ok.pot p e
  refine ⟨fun e1 => ?_, fun s hs => ?_⟩
  · have : p = q := Option.some.inj (e1.symm.trans hq)
    rw [this]
    exact d.pot'
  · obtain ⟨ps, h1, h2, h3⟩ := f.2 s hs
    obtain ⟨a, b, hq1, _⟩ := (ok.pot q (.inl hq)).2.1 hq
    refine ⟨ps, hk p _ (fun z => by rw [z, hq1] at h1; cases h1) h1, h2, fun pos cv hc => ?_⟩
    obtain ⟨c, e1, e2⟩ := h3 pos cv hc
    exact ⟨c, e1, hk c _ (fun z => by rw [z, hq1] at e2; exact nco_lst _ _ e2) e2⟩
theorem Ok.npot {π : Po} {X : Xs} {H : Hp} {p q : Addr} (ok : Ok π X H) (m : Mu π q) (h : H p = none) : q ≠ p := fun z => (ok.pot q m).2.some m (by rw [z]; exact h)
theorem Kp.addC {π : Po} {X : Xs} {H H' : Hp} {p : Addr} {o : HO} (k : Kp π H H') (ok : Ok π X H) (h : H p = none) (hc : Nco (H' p)) : Kp π H (upd H' p o) :=
  ⟨fun a u n e => by rw [upd_ne (ne_of_none e h)]; exact k.keep a u n e, fun q e => (k.pot q e).upd (ok.npot e h) hc⟩
theorem Kp.add {π : Po} {X : Xs} {H H' : Hp} {p : Addr} {o : HO} (k : Kp π H H') (ok : Ok π X H) (h : H p = none) (h' : H' p = none := by assumption) : Kp π H (upd H' p o) := k.addC ok h (by rw [h']; exact nco_none)
theorem Ok.keep {π : Po} {X : Xs} {H H' : Hp} (o : Ok π X H) (k : Kp π H H') : Ok π X H' := ⟨fun p x e => o.dom p x (k.free o e), fun q e => ⟨(o.pot q e).1, k.pot q e⟩⟩
theorem Ok.mo {π : Po} {X : Xs} {H H' : Hp} (o : Ok π X H) (k : Kp π H H') : Mo (cut X H) (cut X H') :=
  cut_keep (fun a u n e => k.keep a u (fun z => n (o.pot a z).1) e) fun _ _ n _ => n
theorem AtO.keep {X : Xs} {H H' : Hp} {p : Addr} {x : D} (h : ∀ o, H p = some o → H' p = some o) (m : Mo (cut X H) (cut X H')) (a : AtO X H p x) : AtO X H' p x := by
  cases x with
  | lst ds => obtain ⟨vs, e, t⟩ := a; exact ⟨vs, h _ e, t.mono m⟩
  | dct kd => obtain ⟨kv, e, e2, t⟩ := a; exact ⟨kv, h _ e, e2, t.mono m⟩
  | dcT kd => obtain ⟨kv, e, e2, t⟩ := a; exact ⟨kv, h _ e, e2, t.mono m⟩
  | obj C fd => obtain ⟨dx, fs, e, e2, t⟩ := a; exact ⟨dx, fs, h _ e, e2, t.mono m⟩
  | _ => exact a
theorem AtC.keep {X X' : Xs} {H H' : Hp} {as : List Addr} {a : Addr} {c : Ct} (h : ∀ o, H a = some o → H' a = some o) (m : Mo (cut X H) (cut X' H')) (t : AtC X H as a c) : AtC X' H' as a c := by
  cases c with
  | pl x =>
    cases x with
    | lst ds => obtain ⟨vs, e, t⟩ := t; exact ⟨vs, h _ e, t.mono m⟩
    | dct kd => obtain ⟨kv, e, e2, t⟩ := t; exact ⟨kv, h _ e, e2, t.mono m⟩
    | dcT kd => obtain ⟨kv, e, e2, t⟩ := t; exact ⟨kv, h _ e, e2, t.mono m⟩
    | obj C fd => obtain ⟨dx, fs, e, e2, t⟩ := t; exact ⟨dx, fs, h _ e, e2, t.mono m⟩
    | _ => exact t
  | dir kv => exact ⟨h _ t.1, t.2⟩
theorem Bun.keep {X X' : Xs} {H H' : Hp} {as : List Addr} {cs : List Ct} (h : ∀ a ∈ as, ∀ o, H a = some o → H' a = some o) (m : Mo (cut X H) (cut X' H')) (b : Bun X H as cs) : Bun X' H' as cs :=
  ⟨b.nd, b.len, fun i a c h1 h2 => (b.at_ i a c h1 h2).keep (h a (List.mem_of_getElem? h1)) m⟩
theorem AtC.ex {X : Xs} {H : Hp} {as : List Addr} {a : Addr} {c : Ct} (t : AtC X H as a c) : H a ≠ none := by
  cases c with
  | pl x =>
    cases x with
    | lst ds => obtain ⟨vs, e, _⟩ := t; rw [e]; exact fun z => by cases z
    | dct kd => obtain ⟨kv, e, _⟩ := t; rw [e]; exact fun z => by cases z
    | dcT kd => obtain ⟨kv, e, _⟩ := t; rw [e]; exact fun z => by cases z
    | obj C fd => obtain ⟨dx, fs, e, _⟩ := t; rw [e]; exact fun z => by cases z
    | _ => exact t.elim
  | dir kv => rw [t.1]; exact fun z => by cases z
theorem Bun.ex {X : Xs} {H : Hp} {as : List Addr} {cs : List Ct} (b : Bun X H as cs) {a : Addr} (m : a ∈ as) : H a ≠ none := by
  obtain ⟨i, hi⟩ := List.getElem?_of_mem m
  have hl : i < cs.length := by rw [← b.len]; exact (List.getElem?_eq_some_iff.mp hi).1
  exact (b.at_ i a _ hi (List.getElem?_eq_getElem hl)).ex
theorem RAt.keep {π : Po} {X : Xs} {H0 H H' : Hp} {r : Rv} {v : V} (o : Ok π X H) (ok0 : Kp π H0 H) (o0 : Ok π X H0) (k : Kp π H H') (a : RAt π X H0 H r v) : RAt π X H0 H' r v := by
  cases r with
  | un => trivial
  | d x => exact At.mono (o.mo k) a
  | own p x =>
    obtain ⟨e, xp, np, t⟩ := a
    exact ⟨e, xp, np, t.keep (fun u e => k.keep p u np e) (o.mo k)⟩
  | new x =>
    obtain ⟨p, e, n, t⟩ := a
    have np : ¬ Mu π p := fun z => o0.dom p (o0.pot p z).1 n
    exact ⟨p, e, n, t.keep (fun u e => k.keep p u np e) (cut_keep (fun a u n e => k.keep a u (fun z => n (.inl (o.pot a z).1)) e) fun _ _ n _ => n)⟩
  | pot => exact a
  | raw w => exact a
  | ex a0 dd fds => exact Exat.mono (o.mo k) a
  | cl i as cs => exact ⟨a.1, a.2.1, a.2.2.keep (fun p m u e => k.keep p u (a.2.1 p m).2 e) (o.mo k)⟩
  | ncl i cs =>
    obtain ⟨as, e, n, b⟩ := a
    exact ⟨as, e, n, b.keep (fun p m u e => k.keep p u (fun z => o0.dom p (o0.pot p z).1 (n p m)) e) (cut_keep (fun a u n e => k.keep a u (fun z => n (.inl (o.pot a z).1)) e) fun _ _ n _ => n)⟩
theorem RAt.base {π : Po} {X : Xs} {H0 H1 H : Hp} {r : Rv} {v : V} (o0 : Ok π X H0) (k : Kp π H0 H1) (a : RAt π X H1 H r v) : RAt π X H0 H r v := by
  cases r with
  | new x =>
    obtain ⟨p, e, n, t⟩ := a
    exact ⟨p, e, k.free o0 n, t⟩
  | ncl i cs =>
    obtain ⟨as, e, n, b⟩ := a
    exact ⟨as, e, fun p m => k.free o0 (n p m), b⟩
  | _ => exact a
def SAt (π : Po) (X : Xs) (H : Hp) (r : Rv) (o : Option V) : Prop := match r with
  | .un => True
  | .d x => ∃ v, o = some v ∧ At (cut X H) v x
  | r => ∃ v, o = some v ∧ RAt π X H H r v
theorem SAt.of {π : Po} {X : Xs} {H : Hp} {r : Rv} {v : V} (a : RAt π X H H r v) : SAt π X H r (some v) := by
  cases r with
  | un => trivial
  | _ => exact ⟨v, rfl, a⟩
theorem SAt.get {π : Po} {X : Xs} {H : Hp} {r : Rv} {o : Option V} (a : SAt π X H r o) (n : r ≠ .un) : ∃ v, o = some v ∧ RAt π X H H r v := by
  cases r with
  | un => exact absurd rfl n
  | _ => exact a
/-- a name holds an address -/
def Ho : Rv → Addr → Prop
  | .own p _, a => some p = some a
  | .cl _ as _, a => a ∈ as
  | _, _ => False
/-- nothing is held -/
def Fre (r : Rv) : Prop := ∀ p, ¬ Ho r p
/-- the names of a body, by data -/
structure Ev (π : Po) (X : Xs) (H : Hp) (σ : L2.St) (δ : List Rv) : Prop where
  len : σ.length = δ.length
  at_ : ∀ (i : Nat) (r : Rv) (o : Option V), δ[i]? = some r → σ[i]? = some o → SAt π X H r o
  nd : ∀ (i j : Nat) (r s : Rv) (p : Addr), δ[i]? = some r → δ[j]? = some s → Ho r p → Ho s p → i = j
theorem Ev.get {π : Po} {X : Xs} {H : Hp} {σ : L2.St} {δ : List Rv} {i : Nat} {r : Rv} (e : Ev π X H σ δ) (h : δ[i]? = some r) (n : r ≠ .un) : ∃ v, σ[i]? = some (some v) ∧ RAt π X H H r v := by
  have hl : i < σ.length := by rw [e.len]; exact (List.getElem?_eq_some_iff.mp h).1
  obtain ⟨v, e1, e2⟩ := (e.at_ i r _ h (List.getElem?_eq_getElem hl)).get n
  exact ⟨v, by rw [List.getElem?_eq_getElem hl, e1], e2⟩
theorem SAt.keep {π : Po} {X : Xs} {H H' : Hp} {r : Rv} {o : Option V} (ok : Ok π X H) (k : Kp π H H') (a : SAt π X H r o) : SAt π X H' r o := by
  cases r with
  | un => trivial
  | new x =>
    obtain ⟨v, e, p, e2, n, t⟩ := a
    cases x with
    | lst ds => obtain ⟨vs, e, _⟩ := t; rw [n] at e; cases e
    | dct ds => obtain ⟨vs, e, _⟩ := t; rw [n] at e; cases e
    | dcT ds => obtain ⟨vs, e, _⟩ := t; rw [n] at e; cases e
    | obj C ds => obtain ⟨dx, vs, e, _⟩ := t; rw [n] at e; cases e
    | _ => exact t.elim
  | d x => obtain ⟨v, e, a⟩ := a; exact ⟨v, e, a.mono (ok.mo k)⟩
  | own p x =>
    obtain ⟨v, e, a⟩ := a
    have z := RAt.keep (H0 := H) (r := .own p x) ok ok.kp ok k a
    exact ⟨v, e, z⟩
  | pot => exact a
  | raw w => exact a
  | ex a0 dd fds => obtain ⟨v, e, a⟩ := a; exact ⟨v, e, Exat.mono (ok.mo k) a⟩
  | cl i as cs =>
    obtain ⟨v, e, a⟩ := a
    exact ⟨v, e, RAt.keep (H0 := H) (r := .cl i as cs) ok ok.kp ok k a⟩
  | ncl i cs =>
    obtain ⟨v, e, as, ⟨p, hp, _⟩, n, b⟩ := a
    exact absurd (n p (List.mem_of_getElem? hp)) (b.ex (List.mem_of_getElem? hp))
theorem Ev.keep {π : Po} {X : Xs} {H H' : Hp} {σ : L2.St} {δ : List Rv} (ok : Ok π X H) (k : Kp π H H') (e : Ev π X H σ δ) : Ev π X H' σ δ :=
  ⟨e.len, fun i r o h1 h2 => (e.at_ i r o h1 h2).keep ok k, e.nd⟩
def Wp (π : Po) (te : TE) (δ : List Rv) (k : Rv → Prop) : Prop :=
  ∀ (X : Xs) (H : Hp) (σ : L2.St) (Q : VK), Ok π X H → Ev π X H σ δ → (∀ v r H', Kp π H H' → RAt π X H H' r v → k r → Q v H') → te σ H Q
def WpT (π : Po) (tt : TT) (δ : List Rv) (k : Bool → Prop) : Prop :=
  ∀ (X : Xs) (H : Hp) (σ : L2.St) (Q : Bool → Hp → Prop), Ok π X H → Ev π X H σ δ → (∀ b H', Kp π H H' → k b → Q b H') → tt σ H Q
/-- several values, told at one heap -/
def RAts (π : Po) (X : Xs) (H0 H : Hp) : List Rv → List V → Prop
  | [], [] => True
  | r :: rs, v :: vs => RAt π X H0 H r v ∧ RAts π X H0 H rs vs
  | _, _ => False
theorem RAts.keep {π : Po} {X : Xs} {H0 H H' : Hp} (o : Ok π X H) (ok0 : Kp π H0 H) (o0 : Ok π X H0) (k : Kp π H H') : ∀ {rs : List Rv} {vs : List V}, RAts π X H0 H rs vs → RAts π X H0 H' rs vs
  | [], [], _ => trivial
  | _ :: _, _ :: _, ⟨a, b⟩ => ⟨a.keep o ok0 o0 k, RAts.keep o ok0 o0 k b⟩
  | [], _ :: _, a => a.elim
  | _ :: _, [], a => a.elim
theorem RAts.base {π : Po} {X : Xs} {H0 H1 H : Hp} (o0 : Ok π X H0) (k : Kp π H0 H1) : ∀ {rs : List Rv} {vs : List V}, RAts π X H1 H rs vs → RAts π X H0 H rs vs
  | [], [], _ => trivial
  | _ :: _, _ :: _, ⟨a, b⟩ => ⟨a.base o0 k, RAts.base o0 k b⟩
  | [], _ :: _, a => a.elim
  | _ :: _, [], a => a.elim
theorem RAts.length {π : Po} {X : Xs} {H0 H : Hp} : ∀ {rs : List Rv} {vs : List V}, RAts π X H0 H rs vs → rs.length = vs.length
  | [], [], _ => rfl
  | _ :: _, _ :: _, ⟨_, b⟩ => congrArg (· + 1) b.length
  | [], _ :: _, a => a.elim
  | _ :: _, [], a => a.elim
def WpA (π : Po) (t : TA) (δ : List Rv) (k : List Rv → Prop) : Prop :=
  ∀ (X : Xs) (H : Hp) (σ : L2.St) (Q : List V → Hp → Prop), Ok π X H → Ev π X H σ δ → (∀ vs rs H', Kp π H H' → RAts π X H H' rs vs → k rs → Q vs H') → t σ H Q
/-- what is done with values that are there -/
def WOp (π : Po) (r : R2) (a b : Rv) (k : Rv → Prop) : Prop :=
  ∀ (X : Xs) (H0 H : Hp) (x y : V) (Q : VK), Ok π X H0 → Ok π X H → Kp π H0 H → RAt π X H0 H a x → RAt π X H0 H b y → (∀ v z H', Kp π H H' → RAt π X H0 H' z v → k z → Q v H') → r x y H Q
def WUn (π : Po) (r : V → Hp → VK → Prop) (a : Rv) (k : Rv → Prop) : Prop :=
  ∀ (X : Xs) (H0 H : Hp) (x : V) (Q : VK), Ok π X H0 → Ok π X H → Kp π H0 H → RAt π X H0 H a x → (∀ v z H', Kp π H H' → RAt π X H0 H' z v → k z → Q v H') → r x H Q
def WCb (π : Po) (r : List V → Hp → VK → Prop) (as : List Rv) (k : Rv → Prop) : Prop :=
  ∀ (X : Xs) (H0 H : Hp) (xs : List V) (Q : VK), Ok π X H0 → Ok π X H → Kp π H0 H → RAts π X H0 H as xs → (∀ v z H', Kp π H H' → RAt π X H0 H' z v → k z → Q v H') → r xs H Q
section
variable {π : Po} {δ : List Rv} {k : Rv → Prop} {ta tb te : TE} {r : R2} {t : TA}
theorem Wp.imp {k' : Rv → Prop} (h : Wp π te δ k') (i : ∀ r, k' r → k r) : Wp π te δ k := fun X H σ Q o e q => h X H σ Q o e fun v r H' kp a kr => q v r H' kp a (i r kr)
theorem WpT.imp {tt : TT} {k k' : Bool → Prop} (h : WpT π tt δ k') (i : ∀ r, k' r → k r) : WpT π tt δ k := fun X H σ Q o e q => h X H σ Q o e fun b H' kp kr => q b H' kp (i b kr)
theorem w_var {n : Nat} {r : Rv} (h : δ[n]? = some r) (hn : r ≠ .un) (q : k r) : Wp π (tVar n) δ k := fun X H σ Q o e h' => by
  obtain ⟨v, e1, e2⟩ := e.get h hn
  exact ⟨v, e1, h' v r H o.kp e2 q⟩
theorem w_int {i : Int} (q : k (.d (.int i))) : Wp π (tC (.int i)) δ k := fun X H σ Q o e h => h (.int i) (.d (.int i)) H o.kp (At.int i) q
theorem w_str {s : Str} (q : k (.d (.str s))) : Wp π (tC (.str s)) δ k := fun X H σ Q o e h => h (.str s) (.d (.str s)) H o.kp (At.str s) q
theorem w_bl {b : Bool} (q : k (.d (.bl b))) : Wp π (tC (.bl b)) δ k := fun X H σ Q o e h => h (.bl b) (.d (.bl b)) H o.kp (At.bl b) q
theorem w_non (q : k (.d .non)) : Wp π (tC .non) δ k := fun X H σ Q o e h => h .non (.d .non) H o.kp At.non q
theorem w_ty {n : String} (q : k (.raw (.ty n))) : Wp π (tC (.ty n)) δ k := fun X H σ Q o e h => h (.ty n) (.raw (.ty n)) H o.kp rfl q
theorem w_ref {p : Addr} (q : k (.raw (.ref p))) : Wp π (tC (.ref p)) δ k := fun X H σ Q o e h => h (.ref p) (.raw (.ref p)) H o.kp rfl q
theorem w_op (q : Wp π ta δ fun a => Wp π tb δ fun b => WOp π r a b k) : Wp π (tOp r ta tb) δ k := fun X H σ Q o e h => by
  refine q X H σ _ o e fun x a H1 k1 r1 wb => ?_
  have o1 := o.keep k1
  refine wb X H1 σ _ o1 (e.keep o k1) fun y b H2 k2 r2 w => ?_
  have k02 := k1.trans k2
  exact w X H H2 x y Q o (o1.keep k2) k02 (r1.keep o1 k1 o k2) (r2.base o k1) fun v z H3 k3 r3 kz => h v z H3 (k02.trans k3) r3 kz
theorem w_un {r : V → Hp → VK → Prop} (q : Wp π ta δ fun a => WUn π r a k) : Wp π (tUn r ta) δ k := fun X H σ Q o e h => by
  refine q X H σ _ o e fun x a H1 k1 r1 w => ?_
  exact w X H H1 x Q o (o.keep k1) k1 r1 fun v z H3 k3 r3 kz => h v z H3 (k1.trans k3) r3 kz
theorem wa_nil {k : List Rv → Prop} (q : k []) : WpA π tNil δ k := fun X H σ Q o e h => h [] [] H o.kp trivial q
theorem wa_cons {k : List Rv → Prop} (q : Wp π ta δ fun a => WpA π t δ fun rs => k (a :: rs)) : WpA π (tCons ta t) δ k := fun X H σ Q o e h => by
  refine q X H σ _ o e fun x a H1 k1 r1 w => ?_
  have o1 := o.keep k1
  refine w X H1 σ _ o1 (e.keep o k1) fun vs rs H2 k2 r2 kr => ?_
  exact h (x :: vs) (a :: rs) H2 (k1.trans k2) ⟨r1.keep o1 k1 o k2, r2.base o k1⟩ kr
theorem w_cb {r : List V → Hp → VK → Prop} (q : WpA π t δ fun as => WCb π r as k) : Wp π (tCB r t) δ k := fun X H σ Q o e h => by
  refine q X H σ _ o e fun vs rs H1 k1 r1 w => ?_
  exact w X H H1 vs Q o (o.keep k1) k1 r1 fun v z H3 k3 r3 kz => h v z H3 (k1.trans k3) r3 kz
theorem w_call {sp : Sp} {E : XK} (q : WpA π t δ fun as => WCb π (fun vs H Q => sp vs H Q E) as k) : Wp π (tCall sp [] E t) δ k := fun X H σ Q o e h => by
  refine i_call ?_
  exact w_cb (r := fun vs H Q => sp vs H Q E) q X H σ Q o e h
/-- tests -/
theorem wt_tb {k : Bool → Prop} (q : Wp π te δ fun r => ∃ b, r = .d (.bl b) ∧ k b) : WpT π (tB te) δ k := fun X H σ Q o e h => by
  refine q X H σ _ o e fun v r H1 k1 a w => ?_
  obtain ⟨b, rfl, kb⟩ := w
  cases a
  exact ⟨b, rfl, h b H1 k1 kb⟩
theorem wt_test {k : Bool → Prop} (q : Wp π te δ fun r => ∃ b, r = .d (.bl b) ∧ k b) : WpT π (tTest te) δ k := wt_tb q
theorem wt_and {k : Bool → Prop} {t u : TT} (q : WpT π t δ fun c => if c = true then WpT π u δ k else k false) : WpT π (tAnd t u) δ k := fun X H σ Q o e h => by
  refine q X H σ _ o e fun c H1 k1 w => ?_
  dsimp only at w
  split at w
  · rw [if_pos ‹_›]
    exact w X H1 σ Q (o.keep k1) (e.keep o k1) fun b H2 k2 kb => h b H2 (k1.trans k2) kb
  · rw [if_neg ‹_›]
    exact h false H1 k1 w
theorem wt_or {k : Bool → Prop} {t u : TT} (q : WpT π t δ fun c => if c = true then k true else WpT π u δ k) : WpT π (tOr t u) δ k := fun X H σ Q o e h => by
  refine q X H σ _ o e fun c H1 k1 w => ?_
  dsimp only at w
  split at w
  · rw [if_pos ‹_›]
    exact h true H1 k1 w
  · rw [if_neg ‹_›]
    exact w X H1 σ Q (o.keep k1) (e.keep o k1) fun b H2 k2 kb => h b H2 (k1.trans k2) kb
theorem wt_not {k : Bool → Prop} {t : TT} (q : WpT π t δ fun c => k (!c)) : WpT π (tNot t) δ k := fun X H σ Q o e h => by
  exact q X H σ _ o e fun c H1 k1 w => h _ H1 k1 w
theorem w_andV (q : Wp π ta δ fun r => ∃ c, r = .d (.bl c) ∧ if c = true then Wp π tb δ k else k (.d (.bl false))) : Wp π (tAndV ta tb) δ k := fun X H σ Q o e h => by
  refine q X H σ _ o e fun v r H1 k1 a w => ?_
  obtain ⟨c, rfl, w⟩ := w
  cases a
  refine ⟨c, rfl, ?_⟩
  split at w
  · rw [if_pos ‹_›]
    exact w X H1 σ Q (o.keep k1) (e.keep o k1) fun v r H2 k2 a kb => h v r H2 (k1.trans k2) (a.base o k1) kb
  · rw [if_neg ‹_›]
    exact h (.bl false) (.d (.bl false)) H1 k1 (At.bl false) w
theorem w_orV (q : Wp π ta δ fun r => ∃ c, r = .d (.bl c) ∧ if c = true then k (.d (.bl true)) else Wp π tb δ k) : Wp π (tOrV ta tb) δ k := fun X H σ Q o e h => by
  refine q X H σ _ o e fun v r H1 k1 a w => ?_
  obtain ⟨c, rfl, w⟩ := w
  cases a
  refine ⟨c, rfl, ?_⟩
  split at w
  · rw [if_pos ‹_›]
    exact h (.bl true) (.d (.bl true)) H1 k1 (At.bl true) w
  · rw [if_neg ‹_›]
    exact w X H1 σ Q (o.keep k1) (e.keep o k1) fun v r H2 k2 a kb => h v r H2 (k1.trans k2) (a.base o k1) kb
theorem w_notV (q : Wp π ta δ fun r => ∃ c, r = .d (.bl c) ∧ k (.d (.bl (!c)))) : Wp π (tNotV ta) δ k := fun X H σ Q o e h => by
  refine q X H σ _ o e fun v r H1 k1 a w => ?_
  obtain ⟨c, rfl, w⟩ := w
  cases a
  exact ⟨c, rfl, h (.bl (!c)) (.d (.bl (!c))) H1 k1 (At.bl _) w⟩
theorem w_if {tt : TT} (q : WpT π tt δ fun c => if c = true then Wp π ta δ k else Wp π tb δ k) : Wp π (tIf tt ta tb) δ k := fun X H σ Q o e h => by
  refine q X H σ _ o e fun c H1 k1 w => ?_
  dsimp only at w
  split at w
  · rw [if_pos ‹_›]
    exact w X H1 σ Q (o.keep k1) (e.keep o k1) fun v r H2 k2 a kb => h v r H2 (k1.trans k2) (a.base o k1) kb
  · rw [if_neg ‹_›]
    exact w X H1 σ Q (o.keep k1) (e.keep o k1) fun v r H2 k2 a kb => h v r H2 (k1.trans k2) (a.base o k1) kb
end
end Dt
namespace Dt
open PySem PySem.Spec PyProof.Rows L2 Ly
def Rv.li : Rv → Option (List D)
  | .d (.lst ds) => some ds
  | .own _ (.lst ds) => some ds
  | .new (.lst ds) => some ds
  | .cl i _ cs => match cs[i]? with
    | some (.pl (.lst ds)) => some ds
    | _ => none
  | _ => none
def Rv.kd : Rv → Option (List (Key × D))
  | .d (.dct ds) => some ds
  | .own _ (.dct ds) => some ds
  | .new (.dct ds) => some ds
  | .cl i _ cs => match cs[i]? with
    | some (.pl (.dct ds)) => some ds
    | _ => none
  | _ => none
def ctD (cs : List Ct) (i : Nat) : Option D := match cs[i]? with
  | some (.pl x) => some x
  | _ => none
def ctDs (cs : List Ct) : List (Key × Nat) → Option (List (Key × D))
  | [] => some []
  | (k, i) :: kv => match ctD cs i, ctDs cs kv with
    | some x, some xs => some ((k, x) :: xs)
    | _, _ => none
/-- a bundle as data -/
def fzC (cs : List Ct) (i : Nat) : Option D := match cs[i]? with
  | some (.pl x) => some x
  | some (.dir kv) => (ctDs cs kv).map D.dct
  | _ => none
def Rv.fz : Rv → Option D
  | .d x => some x
  | .new x => some x
  | .ncl i cs => fzC cs i
  | _ => none
theorem AtO.to {X X' : Xs} {H : Hp} {p : Addr} {x : D} (n : ¬ X' p) (m : Mo (cut X H) (cut X' H)) (a : AtO X H p x) : At (cut X' H) (.ref p) x := by
  cases x with
  | lst ds => obtain ⟨vs, e, t⟩ := a; exact .lst (cut_of n e) (t.mono m)
  | dct kd => obtain ⟨kv, e, e2, t⟩ := a; exact .dct (.inl (cut_of n e)) e2 (t.mono m)
  | dcT kd => obtain ⟨kv, e, e2, t⟩ := a; exact .dcT (.inl (cut_of n e)) e2 (t.mono m)
  | obj C fd => obtain ⟨dx, fs, e, e2, t⟩ := a; exact .obj (cut_of n e) e2 (t.mono m)
  | _ => exact a.elim
theorem Bun.ctD {X X' : Xs} {H : Hp} {as : List Addr} {cs : List Ct} (b : Bun X H as cs) (n : ∀ a ∈ as, ¬ X' a) (m : Mo (cut X H) (cut X' H)) {i : Nat} {x : D} (h : ctD cs i = some x) : ∃ a, as[i]? = some a ∧ At (cut X' H) (.ref a) x := by
  unfold Dt.ctD at h
  cases hc : cs[i]? with
  | none => rw [hc] at h; cases h
  | some c =>
    rw [hc] at h
    cases c with
    | dir kv => cases h
    | pl y =>
      cases h
      have hl : i < as.length := by rw [b.len]; exact (List.getElem?_eq_some_iff.mp hc).1
      refine ⟨as[i], List.getElem?_eq_getElem hl, ?_⟩
      exact AtO.to (n _ (List.getElem_mem hl)) m (b.at_ i _ _ (List.getElem?_eq_getElem hl) hc)
theorem Bun.ctDs {X X' : Xs} {H : Hp} {as : List Addr} {cs : List Ct} (b : Bun X H as cs) (n : ∀ a ∈ as, ¬ X' a) (m : Mo (cut X H) (cut X' H)) : ∀ {kv : List (Key × Nat)} {kd : List (Key × D)}, ctDs cs kv = some kd →
    (kv.map fun e => (e.1, V.ref (as.getD e.2 0))).map (·.1) = kd.map (·.1) ∧ Ats (cut X' H) ((kv.map fun e => (e.1, V.ref (as.getD e.2 0))).map (·.2)) (kd.map (·.2))
  | [], kd, h => by cases h; exact ⟨rfl, .nil⟩
  | (k, i) :: kv, kd, h => by
    unfold Dt.ctDs at h
    cases h1 : Dt.ctD cs i with
    | none => rw [h1] at h; cases h
    | some x =>
      cases h2 : Dt.ctDs cs kv with
      | none => rw [h1, h2] at h; cases h
      | some xs =>
        rw [h1, h2] at h
        cases h
        obtain ⟨e1, e2⟩ := b.ctDs n m h2
        obtain ⟨a, ha, hat⟩ := b.ctD n m h1
        refine ⟨?_, ?_⟩
        · simp only [List.map_cons, List.cons.injEq, true_and]
          exact e1
        · simp only [List.map_cons]
          refine .cons ?_ e2
          rw [List.getD_eq_getElem?_getD, ha]
          exact hat
theorem Bun.fz {X X' : Xs} {H : Hp} {as : List Addr} {cs : List Ct} (b : Bun X H as cs) (n : ∀ a ∈ as, ¬ X' a) (m : Mo (cut X H) (cut X' H)) {i : Nat} {x : D} (h : fzC cs i = some x) : ∃ a, as[i]? = some a ∧ At (cut X' H) (.ref a) x := by
  unfold fzC at h
  cases hc : cs[i]? with
  | none => rw [hc] at h; cases h
  | some c =>
    rw [hc] at h
    cases c with
    | pl y =>
      cases h
      exact b.ctD n m (by unfold Dt.ctD; rw [hc])
    | dir kv =>
      dsimp only at h
      cases h1 : Dt.ctDs cs kv with
      | none => rw [h1] at h; cases h
      | some kd =>
        rw [h1] at h
        cases h
        obtain ⟨e1, e2⟩ := b.ctDs n m h1
        have hl : i < as.length := by rw [b.len]; exact (List.getElem?_eq_some_iff.mp hc).1
        refine ⟨as[i], List.getElem?_eq_getElem hl, ?_⟩
        exact At.dct (.inl (cut_of (n _ (List.getElem_mem hl)) (b.at_ i _ _ (List.getElem?_eq_getElem hl) hc).1)) e1 e2
def fzs : List Rv → Option (List D)
  | [] => some []
  | r :: rs => match r.fz, fzs rs with
    | some x, some xs => some (x :: xs)
    | _, _ => none
theorem plus_sub {X : Xs} {H : Hp} {p : Addr} : Mo (cut (plus X p) H) (cut X H) := cut_less fun _ x => .inl x
theorem RAt.li {π : Po} {X : Xs} {H0 H : Hp} {r : Rv} {v : V} {ds : List D} (a : RAt π X H0 H r v) (h : r.li = some ds) : ∃ p vs, v = .ref p ∧ H p = some (.lst vs) ∧ Ats (cut X H) vs ds := by
  cases r with
  | d x =>
    cases x with
    | lst es => cases h; cases a with | lst e t => exact ⟨_, _, rfl, (of_cut e).2, t⟩
    | _ => cases h
  | own p x =>
    cases x with
    | lst es => cases h; obtain ⟨e, _, _, vs, e2, t⟩ := a; exact ⟨p, vs, e, e2, t⟩
    | _ => cases h
  | new x =>
    cases x with
    | lst es => cases h; obtain ⟨p, e, _, vs, e2, t⟩ := a; exact ⟨p, vs, e, e2, t.mono plus_sub⟩
    | _ => cases h
  | cl i as cs =>
    obtain ⟨⟨q, hq, e⟩, _, b⟩ := a
    unfold Rv.li at h
    dsimp only at h
    cases hc : cs[i]? with
    | none => rw [hc] at h; cases h
    | some c =>
      rw [hc] at h
      have t := b.at_ i q c hq hc
      cases c with
      | dir kv => cases h
      | pl x =>
        cases x with
        | lst es => cases h; obtain ⟨vs, e2, t⟩ := t; exact ⟨q, vs, e, e2, t⟩
        | _ => cases h
  | _ => cases h
theorem rd_cut {X : Xs} {H : Hp} {p : Addr} {o : HO} (h : Rd (cut X H) p o) : Rd H p o := h.elim (fun h => .inl (of_cut h).2) fun ⟨w, h⟩ => .inr ⟨w, (of_cut h).2⟩
theorem RAt.kd {π : Po} {X : Xs} {H0 H : Hp} {r : Rv} {v : V} {ds : List (Key × D)} (a : RAt π X H0 H r v) (h : r.kd = some ds) : ∃ p kv, v = .ref p ∧ Rd H p (.dK kv) ∧ kv.map (·.1) = ds.map (·.1) ∧ Ats (cut X H) (kv.map (·.2)) (ds.map (·.2)) := by
  cases r with
  | d x =>
    cases x with
    | dct es => cases h; cases a with | dct e e2 t => exact ⟨_, _, rfl, rd_cut e, e2, t⟩
    | _ => cases h
  | own p x =>
    cases x with
    | dct es => cases h; obtain ⟨e, _, _, vs, e2, e3, t⟩ := a; exact ⟨p, vs, e, .inl e2, e3, t⟩
    | _ => cases h
  | new x =>
    cases x with
    | dct es => cases h; obtain ⟨p, e, _, vs, e2, e3, t⟩ := a; exact ⟨p, vs, e, .inl e2, e3, t.mono plus_sub⟩
    | _ => cases h
  | cl i as cs =>
    obtain ⟨⟨q, hq, e⟩, _, b⟩ := a
    unfold Rv.kd at h
    dsimp only at h
    cases hc : cs[i]? with
    | none => rw [hc] at h; cases h
    | some c =>
      rw [hc] at h
      have t := b.at_ i q c hq hc
      cases c with
      | dir kv => cases h
      | pl x =>
        cases x with
        | dct es => cases h; obtain ⟨vs, e2, e3, t⟩ := t; exact ⟨q, vs, e, .inl e2, e3, t⟩
        | _ => cases h
  | _ => cases h
theorem RAt.fz {π : Po} {X : Xs} {H0 H : Hp} {r : Rv} {v : V} {x : D} (o0 : Ok π X H0) (a : RAt π X H0 H r v) (h : r.fz = some x) : At (cut X H) v x := by
  cases r with
  | d y => cases h; exact a
  | new y =>
    cases h
    obtain ⟨p, e, n, t⟩ := a
    have np : ¬ X p := fun z => o0.dom p z n
    subst e
    cases x with
    | lst ds => obtain ⟨vs, e, t⟩ := t; exact .lst (cut_of np e) (t.mono plus_sub)
    | dct kd => obtain ⟨kv, e, e2, t⟩ := t; exact .dct (.inl (cut_of np e)) e2 (t.mono plus_sub)
    | dcT kd => obtain ⟨kv, e, e2, t⟩ := t; exact .dcT (.inl (cut_of np e)) e2 (t.mono plus_sub)
    | obj C fd => obtain ⟨dx, fs, e, e2, t⟩ := t; exact .obj (cut_of np e) e2 (t.mono plus_sub)
    | _ => exact t.elim
  | ncl i cs =>
    obtain ⟨as, ⟨p, hp, e⟩, n, b⟩ := a
    have np : ∀ a ∈ as, ¬ X a := fun a m z => o0.dom a z (n a m)
    obtain ⟨q, hq, t⟩ := b.fz np (cut_less fun _ z => .inl z) h
    rw [hp] at hq
    cases hq
    rw [e]
    exact t
  | _ => cases h
theorem RAts.fzs {π : Po} {X : Xs} {H0 H : Hp} (o0 : Ok π X H0) : ∀ {rs : List Rv} {vs : List V} {ds : List D}, RAts π X H0 H rs vs → fzs rs = some ds → Ats (cut X H) vs ds
  | [], [], _, _, h => by cases h; exact .nil
  | r :: rs, v :: vs, ds, ⟨a, b⟩, h => by
    unfold Dt.fzs at h
    cases h1 : r.fz with
    | none => rw [h1] at h; cases h
    | some x =>
      cases h2 : Dt.fzs rs with
      | none => rw [h1, h2] at h; cases h
      | some xs =>
        rw [h1, h2] at h
        cases h
        exact .cons (a.fz o0 h1) (b.fzs o0 h2)
  | [], _ :: _, _, a, _ => a.elim
  | _ :: _, [], _, a, _ => a.elim
/-- a new object, many may hold it -/
theorem new_at {π : Po} {X : Xs} {H0 H : Hp} {p : Addr} {x : D} {o : HO} (ok : Ok π X H) (h : H p = none) (a : AtO (plus X p) (L2.upd H p o) p x) (k : Kp π H0 H) (o0 : Ok π X H0) : RAt π X H0 (L2.upd H p o) (.new x) (.ref p) := ⟨p, rfl, k.free o0 h, a⟩
theorem up_mo {X : Xs} {H : Hp} {p : Addr} {o : HO} (h : H p = none) : Mo (cut X H) (cut (plus X p) (L2.upd H p o)) :=
  cut_keep (fun a u _ e => by rw [upd_ne (ne_of_none e h)]; exact e) fun a u n e z => z.elim n (ne_of_none e h)
theorem up_mo' {X : Xs} {H : Hp} {p : Addr} {o : HO} (h : H p = none) : Mo (cut X H) (cut X (L2.upd H p o)) :=
  cut_keep (fun a u _ e => by rw [upd_ne (ne_of_none e h)]; exact e) fun a u n e => n
theorem le_line {n : Nat} (h : n ≤ 4000) : n ≤ sizeLine := Nat.le_trans h (by decide)
section
variable {π : Po} {δ : List Rv} {k : Rv → Prop} {ta tb te : TE} {t : TA} {K : PySem.W.Frag}
theorem w_tup (q : WpA π t δ fun rs => ∃ ds, fzs rs = some ds ∧ ds.length ≤ 4000 ∧ k (.d (.tup ds))) : Wp π (tTup t) δ k := fun X H σ Q o e h => by
  refine q X H σ _ o e fun vs rs H1 k1 a w => ?_
  obtain ⟨ds, hf, hl, kd⟩ := w
  have at_ := a.fzs o hf
  refine ⟨by rw [at_.length]; exact le_line hl, fun p hp => ?_⟩
  have np : ¬ X p := fun z => (o.keep k1).dom p z hp
  refine h (.ref p) (.d (.tup ds)) _ (k1.trans ((o.keep k1).kp.add (o.keep k1) hp)) ?_ kd
  exact At.tup (cut_of np upd_same) (at_.mono (up_mo' hp))
theorem w_lst (q : WpA π t δ fun rs => ∃ ds, fzs rs = some ds ∧ ds.length ≤ 4000 ∧ k (.new (.lst ds))) : Wp π (tLst t) δ k := fun X H σ Q o e h => by
  refine q X H σ _ o e fun vs rs H1 k1 a w => ?_
  obtain ⟨ds, hf, hl, kd⟩ := w
  have at_ := a.fzs o hf
  refine ⟨by rw [at_.length]; exact le_line hl, fun p hp => ?_⟩
  refine h (.ref p) (.new (.lst ds)) _ (k1.trans ((o.keep k1).kp.add (o.keep k1) hp)) ?_ kd
  exact new_at (o.keep k1) hp ⟨vs, upd_same, at_.mono (up_mo hp)⟩ k1 o
theorem wop_ixL {a : Rv} {ds : List D} {i : Int} {d : D} (hl : a.li = some ds) (ha : atI ds i = some d) (q : k (.d d)) : WOp π (rIx K) a (.d (.int i)) k := fun X H0 H x y Q o0 o k0 ra rb h => by
  obtain ⟨p, vs, rfl, e, t⟩ := ra.li hl
  cases rb
  obtain ⟨j, hj, hd⟩ : ∃ j, ixN ds.length i = some j ∧ ds[j]? = some d := by
    unfold atI at ha
    cases hj : ixN ds.length i with
    | none => rw [hj] at ha; cases ha
    | some j => rw [hj] at ha; exact ⟨j, rfl, ha⟩
  obtain ⟨v, hv, av⟩ := t.get hd
  refine i_ix_l e (v := v) ?_ (h v (.d d) H o.kp av q)
  unfold atI
  rw [t.length, hj]
  exact hv
theorem wop_ixT {ds : List D} {i : Int} {d : D} (ha : atI ds i = some d) (q : k (.d d)) : WOp π (rIx K) (.d (.tup ds)) (.d (.int i)) k := fun X H0 H x y Q o0 o k0 ra rb h => by
  cases ra with
  | tup e t =>
    cases rb
    obtain ⟨j, hj, hd⟩ : ∃ j, ixN ds.length i = some j ∧ ds[j]? = some d := by
      unfold atI at ha
      cases hj : ixN ds.length i with
      | none => rw [hj] at ha; cases ha
      | some j => rw [hj] at ha; exact ⟨j, rfl, ha⟩
    obtain ⟨v, hv, av⟩ := t.get hd
    refine i_ix_t (of_cut e).2 (v := v) ?_ (h v (.d d) H o.kp av q)
    unfold atI
    rw [t.length, hj]
    exact hv
theorem wcb_lenL {a : Rv} {ds : List D} (hl : a.li = some ds) (q : k (.d (.int ds.length))) : WCb π (Ly.rLen K) [a] k := fun X H0 H xs Q o0 o k0 ra h => by
  match xs, ra with
  | [x], ⟨ra, _⟩ =>
    obtain ⟨p, vs, rfl, e, t⟩ := ra.li hl
    refine i_len_l e ?_
    rw [t.length]
    exact h _ (.d (.int ds.length)) H o.kp (At.int _) q
theorem wcb_lenT {ds : List D} (q : k (.d (.int ds.length))) : WCb π (Ly.rLen K) [.d (.tup ds)] k := fun X H0 H xs Q o0 o k0 ra h => by
  match xs, ra with
  | [x], ⟨ra, _⟩ =>
    cases ra with
    | tup e t =>
      refine i_len_t (of_cut e).2 ?_
      rw [t.length]
      exact h _ (.d (.int ds.length)) H o.kp (At.int _) q
theorem wcb_lenS {s : Str} (hs : s.length ≤ sizeLine) (q : k (.d (.int s.length))) : WCb π (Ly.rLen K) [.d (.str s)] k := fun X H0 H xs Q o0 o k0 ra h => by
  match xs, ra with
  | [x], ⟨ra, _⟩ =>
    cases ra
    exact i_len_s hs (h _ (.d (.int s.length)) H o.kp (At.int _) q)
theorem wop_addI {i j : Int} (q : k (.d (.int (i + j)))) : WOp π rAddU (.d (.int i)) (.d (.int j)) k := fun X H0 H x y Q o0 o k0 ra rb h => by
  cases ra; cases rb
  exact i_add_i (h _ (.d (.int (i + j))) H o.kp (At.int _) q)
theorem wop_subI {i j : Int} (q : k (.d (.int (i - j)))) : WOp π rSubU (.d (.int i)) (.d (.int j)) k := fun X H0 H x y Q o0 o k0 ra rb h => by
  cases ra; cases rb
  exact i_sub_i (h _ (.d (.int (i - j))) H o.kp (At.int _) q)
theorem wop_mulI {i j : Int} (c : CMulW i j) (q : k (.d (.int (i * j)))) : WOp π rMulU (.d (.int i)) (.d (.int j)) k := fun X H0 H x y Q o0 o k0 ra rb h => by
  cases ra; cases rb
  exact i_mul_i c (h _ (.d (.int (i * j))) H o.kp (At.int _) q)
theorem wop_fdI {i j : Int} (c : CDivW i j) (q : k (.d (.int (i / j)))) : WOp π rFdU (.d (.int i)) (.d (.int j)) k := fun X H0 H x y Q o0 o k0 ra rb h => by
  cases ra; cases rb
  exact i_fd_i c (h _ (.d (.int (i / j))) H o.kp (At.int _) q)
theorem wop_mdI {i j : Int} (c : 0 < j) (q : k (.d (.int (i % j)))) : WOp π rMdU (.d (.int i)) (.d (.int j)) k := fun X H0 H x y Q o0 o k0 ra rb h => by
  cases ra; cases rb
  exact i_md_i c (h _ (.d (.int (i % j))) H o.kp (At.int _) q)
theorem wop_I0 {i j : Int} {g : Int → Int → V} {b : Bool} (e : g i j = .bl b) (q : k (.d (.bl b))) : WOp π (rI0 g) (.d (.int i)) (.d (.int j)) k := fun X H0 H x y Q o0 o k0 ra rb h => by
  cases ra; cases rb
  refine i_I0 ?_
  rw [e]
  exact h _ (.d (.bl b)) H o.kp (At.bl b) q
end
end Dt
namespace Dt
open PySem PySem.Spec PyProof.Rows L2 Ly
/-- locked dicts: as they stand, as they stood -/
abbrev Lk := Addr → Option (HO × HO)
def undo (L : Lk) (H : Hp) : Hp := fun a => match L a with
  | some x => some x.2
  | none => H a
structure Iv (π : Po) (H0 : Hp) (X0 : Xs) (L : Lk) (X : Xs) (H : Hp) : Prop where
  ok : Ok π X H
  ok0 : Ok π X0 H0
  kp : Kp π H0 (undo L H)
  sub : ∀ p, X0 p → X p
  lk : ∀ a x, L a = some x → (H a = some x.1 ∧ Nco (some x.1)) ∧ ¬ X a
  old : ∀ a, H0 a ≠ none → H a ≠ none
/-- what this body's own names hold is its own -/
def Own0 (H0 : Hp) (X0 : Xs) (δ : List Rv) : Prop := ∀ (i : Nat) (r : Rv) (p : Addr), δ[i]? = some r → Ho r p → H0 p = none ∧ ¬ X0 p
/-- from one place of a body to a later one -/
structure Fr (X : Xs) (H : Hp) (X' : Xs) (H' : Hp) : Prop where
  mo : Mo (cut X H) (cut X' H')
  old : ∀ a, H a ≠ none → H' a ≠ none
theorem Fr.refl (X : Xs) (H : Hp) : Fr X H X H := ⟨Mo.refl _, fun _ x => x⟩
theorem Fr.trans {X X1 X2 : Xs} {H H1 H2 : Hp} (a : Fr X H X1 H1) (b : Fr X1 H1 X2 H2) : Fr X H X2 H2 := ⟨a.mo.trans b.mo, fun p x => b.old p (a.old p x)⟩
theorem Ok.fr {π : Po} {X : Xs} {H H' : Hp} (o : Ok π X H) (k : Kp π H H') : Fr X H X H' := ⟨o.mo k, fun a h e => h (k.free o e)⟩
structure Ke where
  nx : List Rv → Prop
  rt : Rv → Prop
  bk : List Rv → Prop := fun _ => False
  ct : List Rv → Prop := fun _ => False
  xe : XK := fun _ _ _ => False
  kx : Addr → List (Str × D) → Prop := fun _ _ => False
  hz : Hp := fun _ => none
/-- the ends, over data -/
structure EndsOk (π : Po) (H0 : Hp) (X0 : Xs) (L : Lk) (X : Xs) (H : Hp) (k : Ke) (D : Ends) : Prop where
  nx : ∀ X' H' σ δ, Iv π H0 X0 L X' H' → Ev π X' H' σ δ → Own0 H0 X0 δ → Fr X H X' H' → k.nx δ → D.nx σ H'
  bk : ∀ X' H' σ δ, Iv π H0 X0 L X' H' → Ev π X' H' σ δ → Own0 H0 X0 δ → Fr X H X' H' → k.bk δ → D.bk σ H'
  ct : ∀ X' H' σ δ, Iv π H0 X0 L X' H' → Ev π X' H' σ δ → Own0 H0 X0 δ → Fr X H X' H' → k.ct δ → D.ct σ H'
  rt : ∀ X' H' v r, Iv π H0 X0 L X' H' → Fr X H X' H' → Fre r → RAt π X0 H0 H' r v → k.rt r → D.rt v H'
  xc : ∀ (H' : Hp) (C dd : Addr) (fs : List (Str × V)) (fds : List (Str × Dt.D)), Kp π H0 (undo L H') → H0 dd = none → H' dd = some (.xd fs) → fs.map (·.1) = fds.map (·.1) → Ats (cut X0 H') (fs.map (·.2)) (fds.map (·.2)) → k.kx C fds → k.xe (.ref C) (some dd) H'
  hz : ∀ a, H a = none → k.hz a = none
theorem EndsOk.fr {π : Po} {H0 : Hp} {X0 : Xs} {L : Lk} {X X1 : Xs} {H H1 : Hp} {k : Ke} {D : Ends} (f : Fr X H X1 H1) (e : EndsOk π H0 X0 L X H k D) : EndsOk π H0 X0 L X1 H1 k D :=
  ⟨fun X' H' σ δ i v o g => e.nx X' H' σ δ i v o (f.trans g), fun X' H' σ δ i v o g => e.bk X' H' σ δ i v o (f.trans g), fun X' H' σ δ i v o g => e.ct X' H' σ δ i v o (f.trans g), fun X' H' v r i g => e.rt X' H' v r i (f.trans g), e.xc, fun a h => e.hz a (by cases e1 : H a with | none => rfl | some o => exact absurd h (f.old a (by rw [e1]; exact fun z => by cases z)))⟩
def Ws (π : Po) (t : TS) (k : Ke) (δ : List Rv) : Prop :=
  ∀ (H0 : Hp) (X0 : Xs) (L : Lk) (X : Xs) (H : Hp) (σ : L2.St) (D : Ends), Iv π H0 X0 L X H → Ev π X H σ δ → Own0 H0 X0 δ → EndsOk π H0 X0 L X H k D → t D σ H
section
variable {π : Po} {δ : List Rv} {k : Ke} {te : TE} {t u : TS}
theorem undo_kp {π : Po} {X : Xs} {H H' : Hp} {L : Lk} {H0 : Hp} (o : Ok π X H) (hl : ∀ a x, L a = some x → (H a = some x.1 ∧ Nco (some x.1)) ∧ ¬ X a) (k0 : Kp π H0 (undo L H)) (k : Kp π H H') : Kp π H0 (undo L H') :=
  ⟨fun a u n e => by
    have z := k0.keep a u n e
    unfold undo at z ⊢
    cases hL : L a with
    | none => rw [hL] at z; exact k.keep a u n z
    | some w => rw [hL] at z; exact z, fun q e => by
    refine (k.pot q e).mono (fun u h => ?_) fun c s h => ?_
    · unfold undo
      cases hL : L q with
      | none => exact h
      | some w => exact absurd (o.pot q e).1 (hl q w hL).2
    · unfold undo
      cases hL : L c with
      | none => exact h
      | some w =>
        obtain ⟨⟨h1, h2⟩, h3⟩ := hl c w hL
        have h4 := k.keep c _ (fun z => h3 (o.pot c z).1) h1
        rw [h4] at h
        exact absurd h (h2 c s)⟩
theorem Iv.keep {H0 : Hp} {X0 : Xs} {L : Lk} {X : Xs} {H H' : Hp} (i : Iv π H0 X0 L X H) (k : Kp π H H') : Iv π H0 X0 L X H' :=
  ⟨i.ok.keep k, i.ok0, undo_kp i.ok i.lk i.kp k, i.sub, fun a u e => by
    obtain ⟨⟨h, hn⟩, n⟩ := i.lk a u e
    exact ⟨⟨k.keep a _ (fun z => n (i.ok.pot a z).1) h, hn⟩, n⟩, fun a h e => i.old a h (k.free i.ok e)⟩
theorem ws_seq (q : Ws π t { k with nx := fun δ' => Ws π u k δ' } δ) : Ws π (tSeq t u) k δ := fun H0 X0 L X H σ D iv ev ow en => by
  refine q H0 X0 L X H σ _ iv ev ow ⟨fun X' H' σ' δ' iv' ev' ow' f w => ?_, en.bk, en.ct, en.rt, en.xc, en.hz⟩
  exact w H0 X0 L X' H' σ' D iv' ev' ow' (en.fr f)
theorem ws_next (q : k.nx δ) : Ws π tNext k δ := fun H0 X0 L X H σ D iv ev ow en => en.nx X H σ δ iv ev ow (Fr.refl X H) q
theorem ws_drop (q : Wp π te δ fun _ => k.nx δ) : Ws π (tDrop te) k δ := fun H0 X0 L X H σ D iv ev ow en => by
  exact q X H σ _ iv.ok ev fun v r H1 k1 a w => en.nx X H1 σ δ (iv.keep k1) (ev.keep iv.ok k1) ow (iv.ok.fr k1) w
theorem ws_if {c : TT} (q : WpT π c δ fun b => if b = true then Ws π t k δ else Ws π u k δ) : Ws π (tIfS c t u) k δ := fun H0 X0 L X H σ D iv ev ow en => by
  refine q X H σ _ iv.ok ev fun b H1 k1 w => ?_
  dsimp only at w
  split at w
  · rw [if_pos ‹_›]
    exact w H0 X0 L X H1 σ D (iv.keep k1) (ev.keep iv.ok k1) ow (en.fr (iv.ok.fr k1))
  · rw [if_neg ‹_›]
    exact w H0 X0 L X H1 σ D (iv.keep k1) (ev.keep iv.ok k1) ow (en.fr (iv.ok.fr k1))
theorem AtO.less {X X' : Xs} {H : Hp} {p : Addr} {x : D} (m : Mo (cut X H) (cut X' H)) (a : AtO X H p x) : AtO X' H p x := by
  cases x with
  | lst ds => obtain ⟨vs, e, t⟩ := a; exact ⟨vs, e, t.mono m⟩
  | dct kd => obtain ⟨kv, e, e2, t⟩ := a; exact ⟨kv, e, e2, t.mono m⟩
  | dcT kd => obtain ⟨kv, e, e2, t⟩ := a; exact ⟨kv, e, e2, t.mono m⟩
  | obj C fd => obtain ⟨dx, fs, e, e2, t⟩ := a; exact ⟨dx, fs, e, e2, t.mono m⟩
  | _ => exact a
end
end Dt
namespace Dt
open PySem PySem.Spec PyProof.Rows L2 Ly
theorem set_get {α : Type} {xs : List α} {i j : Nat} {x y : α} (h : (xs.set i x)[j]? = some y) : (j = i ∧ y = x) ∨ (j ≠ i ∧ xs[j]? = some y) := by
  by_cases e : j = i
  · subst e
    rw [List.getElem?_set] at h
    simp at h
    exact .inl ⟨rfl, h.2.symm⟩
  · rw [List.getElem?_set_ne (fun z => e z.symm)] at h
    exact .inr ⟨e, h⟩
theorem Ev.put {π : Po} {X X' : Xs} {H H' : Hp} {σ : L2.St} {δ : List Rv} {i : Nat} {r : Rv} {v : V} (e : Ev π X H σ δ) (hk : ∀ r o, SAt π X H r o → SAt π X' H' r o) (hr : SAt π X' H' r (some v))
    (hn : ∀ p, Ho r p → ∀ j s, j ≠ i → δ[j]? = some s → ¬ Ho s p) : Ev π X' H' (σ.set i (some v)) (δ.set i r) := by
  refine ⟨by rw [List.length_set, List.length_set]; exact e.len, fun j s o h1 h2 => ?_, fun j l s t p h1 h2 a1 a2 => ?_⟩
  · rcases set_get h1 with ⟨rfl, rfl⟩ | ⟨n, h1⟩
    · rcases set_get h2 with ⟨_, rfl⟩ | ⟨n, _⟩
      · exact hr
      · exact absurd rfl n
    · rcases set_get h2 with ⟨e', _⟩ | ⟨_, h2⟩
      · exact absurd e' n
      · exact hk _ _ (e.at_ j s o h1 h2)
  · rcases set_get h1 with ⟨e1, e2⟩ | ⟨n1, g1⟩
    · rcases set_get h2 with ⟨e3, e4⟩ | ⟨n2, g2⟩
      · exact e1.trans e3.symm
      · rw [e2] at a1
        exact absurd a2 (hn p a1 l t n2 g2)
    · rcases set_get h2 with ⟨e3, e4⟩ | ⟨n2, g2⟩
      · rw [e4] at a2
        exact absurd a1 (hn p a2 j s n1 g1)
      · exact e.nd j l s t p g1 g2 a1 a2
theorem Own0.put {H0 : Hp} {X0 : Xs} {δ : List Rv} {i : Nat} {r : Rv} (o : Own0 H0 X0 δ) (h : ∀ p, Ho r p → H0 p = none ∧ ¬ X0 p) : Own0 H0 X0 (δ.set i r) := fun j s p h1 a1 => by
  rcases set_get h1 with ⟨rfl, rfl⟩ | ⟨n, h1⟩
  · exact h p a1
  · exact o j s p h1 a1
/-- what was told at an earlier heap, with a new thing set apart -/
theorem SAt.part {π : Po} {X : Xs} {H H' : Hp} {r : Rv} {o : Option V} {p : Addr} (ok : Ok π X H) (k : Kp π H H') (n : H p = none) (a : SAt π X H r o) : SAt π (plus X p) H' r o := by
  have m : Mo (cut X H) (cut (plus X p) H') := cut_keep (fun a u x e => k.keep a u (fun z => x (ok.pot a z).1) e) fun a u x e z => z.elim x (ne_of_none e n)
  have keepO : ∀ q x, X q → ¬ Mu π q → AtO X H q x → AtO (plus X p) H' q x := fun q x xq nq t => by
    cases x with
    | lst ds => obtain ⟨vs, e, t⟩ := t; exact ⟨vs, k.keep q _ nq e, t.mono m⟩
    | dct kd => obtain ⟨kv, e, e2, t⟩ := t; exact ⟨kv, k.keep q _ nq e, e2, t.mono m⟩
    | dcT kd => obtain ⟨kv, e, e2, t⟩ := t; exact ⟨kv, k.keep q _ nq e, e2, t.mono m⟩
    | obj C fd => obtain ⟨dx, fs, e, e2, t⟩ := t; exact ⟨dx, fs, k.keep q _ nq e, e2, t.mono m⟩
    | _ => exact t
  cases r with
  | un => trivial
  | d x => obtain ⟨v, e, a⟩ := a; exact ⟨v, e, a.mono m⟩
  | own q x =>
    obtain ⟨v, e, e2, xq, nq, t⟩ := a
    exact ⟨v, e, e2, .inl xq, nq, keepO q x xq nq t⟩
  | new x =>
    obtain ⟨v, e, q, e2, nq, t⟩ := a
    cases x with
    | lst ds => obtain ⟨vs, e, _⟩ := t; rw [nq] at e; cases e
    | dct ds => obtain ⟨vs, e, _⟩ := t; rw [nq] at e; cases e
    | dcT ds => obtain ⟨vs, e, _⟩ := t; rw [nq] at e; cases e
    | obj C ds => obtain ⟨dx, vs, e, _⟩ := t; rw [nq] at e; cases e
    | _ => exact t.elim
  | pot => exact a
  | raw w => exact a
  | ex a0 dd fds => obtain ⟨v, e, a⟩ := a; exact ⟨v, e, Exat.mono m a⟩
  | cl i as cs =>
    obtain ⟨v, e, a1, a2, b⟩ := a
    exact ⟨v, e, a1, fun q mq => ⟨.inl (a2 q mq).1, (a2 q mq).2⟩, b.keep (fun q mq u e => k.keep q u (a2 q mq).2 e) m⟩
  | ncl i cs =>
    obtain ⟨v, e, as, ⟨q, hq, _⟩, n, b⟩ := a
    exact absurd (n q (List.mem_of_getElem? hq)) (b.ex (List.mem_of_getElem? hq))
theorem AtO.some {X : Xs} {H : Hp} {p : Addr} {x : D} (a : AtO X H p x) : H p ≠ none := by
  cases x with
  | lst ds => obtain ⟨vs, e, _⟩ := a; rw [e]; exact fun z => by cases z
  | dct kd => obtain ⟨kv, e, _⟩ := a; rw [e]; exact fun z => by cases z
  | dcT kd => obtain ⟨kv, e, _⟩ := a; rw [e]; exact fun z => by cases z
  | obj C fd => obtain ⟨dx, fs, e, _⟩ := a; rw [e]; exact fun z => by cases z
  | _ => exact a.elim
/-- a value is put into names -/
def Wg (π : Po) (g : TG) (r : Rv) (δ : List Rv) (kn : List Rv → Prop) : Prop :=
  ∀ (H0 : Hp) (X0 : Xs) (L : Lk) (X : Xs) (Hs H : Hp) (σ : L2.St) (v : V) (Q : L2.St → Hp → Prop), Iv π H0 X0 L X Hs → Ev π X Hs σ δ → Own0 H0 X0 δ → Kp π Hs H → RAt π X Hs H r v →
    (∀ X' H' σ' δ', Iv π H0 X0 L X' H' → Ev π X' H' σ' δ' → Own0 H0 X0 δ' → Fr X Hs X' H' → kn δ' → Q σ' H') → g v σ H Q
/-- data is put into names: nothing else changes -/
def WgE (π : Po) (g : TG) (x : D) (δ : List Rv) (kn : List Rv → Prop) : Prop :=
  ∀ (X : Xs) (H : Hp) (σ : L2.St) (v : V) (Q : L2.St → Hp → Prop), Ok π X H → Ev π X H σ δ → At (cut X H) v x → (∀ σ' δ', Ev π X H σ' δ' → (∀ (i : Nat) (r : Rv) (p : Addr), δ'[i]? = some r → Ho r p → δ[i]? = some r) → kn δ' → Q σ' H) → g v σ H Q
def WgsE (π : Po) (g : TGs) (xs : List D) (δ : List Rv) (kn : List Rv → Prop) : Prop :=
  ∀ (X : Xs) (H : Hp) (σ : L2.St) (vs : List V) (Q : L2.St → Hp → Prop), Ok π X H → Ev π X H σ δ → Ats (cut X H) vs xs → (∀ σ' δ', Ev π X H σ' δ' → (∀ (i : Nat) (r : Rv) (p : Addr), δ'[i]? = some r → Ho r p → δ[i]? = some r) → kn δ' → Q σ' H) → g vs σ H Q
section
variable {π : Po} {δ : List Rv} {k : Ke} {te : TE} {t u : TS} {g : TG} {kn : List Rv → Prop} {i : Nat}
theorem wg_d {x : D} (q : kn (δ.set i (.d x))) : Wg π (gName i) (.d x) δ kn := fun H0 X0 L X Hs H σ v Q iv ev ow k1 a h => by
  refine h X H (σ.set i (some v)) (δ.set i (.d x)) (iv.keep k1) ?_ ?_ (iv.ok.fr k1) q
  · exact ev.put (fun r o s => s.keep iv.ok k1) ⟨v, rfl, a⟩ fun p e => by cases e
  · exact ow.put fun p e => by cases e
theorem wg_raw {w : V} (q : kn (δ.set i (.raw w))) : Wg π (gName i) (.raw w) δ kn := fun H0 X0 L X Hs H σ v Q iv ev ow k1 a h => by
  refine h X H (σ.set i (some v)) (δ.set i (.raw w)) (iv.keep k1) ?_ ?_ (iv.ok.fr k1) q
  · exact ev.put (fun r o s => s.keep iv.ok k1) ⟨v, rfl, a⟩ fun p e => by cases e
  · exact ow.put fun p e => by cases e
theorem wg_new {x : D} (q : ∀ p, kn (δ.set i (.own p x))) : Wg π (gName i) (.new x) δ kn := fun H0 X0 L X Hs H σ v Q iv ev ow k1 a h => by
  obtain ⟨p, rfl, n, t⟩ := a
  have n0 : H0 p = none := by
    cases e : H0 p with
    | none => rfl
    | some o => exact absurd n (iv.old p (by rw [e]; exact fun z => by cases z))
  have nx : ¬ X p := fun z => iv.ok.dom p z n
  have nL : ∀ a u, L a = some u → a ≠ p := fun a u e z => by
    obtain ⟨⟨h, _⟩, _⟩ := iv.lk a u e
    rw [z, n] at h
    cases h
  have m : Mo (cut X Hs) (cut (plus X p) H) := cut_keep (fun a u x e => k1.keep a u (fun z => x (iv.ok.pot a z).1) e) fun a u x e z => z.elim x (ne_of_none e n)
  have ok1 := iv.ok.keep k1
  have iv1 := iv.keep k1
  refine h (plus X p) H (σ.set i (some (.ref p))) (δ.set i (.own p x)) ?_ ?_ ?_ ⟨m, fun a h e => h (k1.free iv.ok e)⟩ (q p)
  · exact ⟨⟨fun q z => z.elim (ok1.dom q) fun z => by rw [z]; exact t.some, fun q e => ⟨.inl (ok1.pot q e).1, (ok1.pot q e).2⟩⟩, iv.ok0, iv1.kp, fun q z => .inl (iv.sub q z), fun a u e => by
      obtain ⟨h1, h2⟩ := iv1.lk a u e
      exact ⟨h1, fun z => z.elim h2 (nL a u e)⟩, iv1.old⟩
  · refine ev.put (fun r o s => s.part iv.ok k1 n) ⟨.ref p, rfl, rfl, .inr rfl, fun z => iv.ok.dom p (iv.ok.pot p z).1 n, t⟩ fun q e j s nj hj e2 => ?_
    cases e
    have hl : j < σ.length := by rw [ev.len]; exact (List.getElem?_eq_some_iff.mp hj).1
    have z := ev.at_ j s _ hj (List.getElem?_eq_getElem hl)
    cases s with
    | own q y =>
      obtain ⟨_, _, _, xq, _⟩ := z
      cases e2
      exact nx xq
    | cl i as cs =>
      obtain ⟨_, _, _, a2, _⟩ := z
      exact nx (a2 p e2).1
    | _ => cases e2
  · exact ow.put fun q e => by
      cases e
      exact ⟨n0, fun z => nx (iv.sub p z)⟩
theorem ws_asg (q : Wp π te δ fun r => Wg π g r δ k.nx) : Ws π (tAsg te g) k δ := fun H0 X0 L X H σ D iv ev ow en => by
  refine q X H σ _ iv.ok ev fun v r H1 k1 a w => ?_
  exact w H0 X0 L X H H1 σ v D.nx iv ev ow k1 a fun X' H' σ' δ' iv' ev' ow' f w => en.nx X' H' σ' δ' iv' ev' ow' f w
theorem we_name {x : D} (q : kn (δ.set i (.d x))) : WgE π (gName i) x δ kn := fun X H σ v Q ok ev a h => by
  refine h (σ.set i (some v)) (δ.set i (.d x)) (ev.put (fun r o s => s) ⟨v, rfl, a⟩ fun p e => by cases e) (fun j r p h1 a1 => ?_) q
  rcases set_get h1 with ⟨_, e⟩ | ⟨_, g⟩
  · rw [e] at a1; cases a1
  · exact g
theorem wes_nil (q : kn δ) : WgsE π gNil [] δ kn := fun X H σ vs Q ok ev a h => by
  cases a
  exact ⟨rfl, h σ δ ev (fun _ _ _ z _ => z) q⟩
theorem wes_cons {t : TG} {u : TGs} {x : D} {xs : List D} (q : WgE π t x δ fun δ' => WgsE π u xs δ' kn) : WgsE π (gCons t u) (x :: xs) δ kn := fun X H σ vs Q ok ev a h => by
  cases a with
  | cons a r =>
    refine ⟨_, _, rfl, ?_⟩
    refine q X H σ _ _ ok ev a fun σ' δ' ev' s w => ?_
    exact w X H σ' _ Q ok ev' r fun σ2 δ2 ev2 s2 w2 => h σ2 δ2 ev2 (fun i r p h1 a1 => s i r p (s2 i r p h1 a1) a1) w2
theorem we_tup {K : PySem.W.Frag} {n : Nat} {t : TGs} {xs : List D} (hn : xs.length = n) (q : WgsE π t xs δ kn) : WgE π (gTup K n t) (.tup xs) δ kn := fun X H σ v Q ok ev a h => by
  cases a with
  | tup e r => exact ⟨_, _, rfl, SqT.of (of_cut e).2, by rw [r.length, hn], q X H σ _ Q ok ev r h⟩
theorem wg_E {x : D} (q : WgE π g x δ kn) : Wg π g (.d x) δ kn := fun H0 X0 L X Hs H σ v Q iv ev ow k1 a h =>
  q X H σ v Q (iv.ok.keep k1) (ev.keep iv.ok k1) a fun σ' δ' ev' s w => h X H σ' δ' (iv.keep k1) ev' (fun i r p h1 a1 => ow i r p (s i r p h1 a1) a1) (iv.ok.fr k1) w
theorem ws_ret (q : Wp π te δ fun r => Fre r ∧ r ≠ .un ∧ k.rt r) : Ws π (tRet te) k δ := fun H0 X0 L X H σ D iv ev ow en => by
  refine q X H σ _ iv.ok ev fun v r H1 k1 a w => ?_
  obtain ⟨n, nu, w⟩ := w
  have iv1 := iv.keep k1
  refine en.rt X H1 v r iv1 (iv.ok.fr k1) n ?_ w
  cases r with
  | un => exact absurd rfl nu
  | d x => exact At.mono (cut_less iv.sub) a
  | own p x => exact absurd rfl (n p)
  | new x =>
    obtain ⟨p, e, n, t⟩ := a
    refine ⟨p, e, ?_, t.less (cut_less fun a z => z.elim (fun z => .inl (iv.sub a z)) .inr)⟩
    cases e : H0 p with
    | none => rfl
    | some o => exact absurd n (iv.old p (by rw [e]; exact fun z => by cases z))
  | pot => exact a
  | raw w => exact a
  | ex a0 dd fds => exact Exat.mono (cut_less iv.sub) a
  | cl i as cs =>
    obtain ⟨⟨p, hp, _⟩, _⟩ := a
    exact absurd (List.mem_of_getElem? hp) (n p)
  | ncl i cs =>
    obtain ⟨as, e, n, b⟩ := a
    refine ⟨as, e, fun p m => ?_, b.keep (fun _ _ _ e => e) (cut_less fun a z => z.elim (fun z => .inl (iv.sub a z)) .inr)⟩
    cases e : H0 p with
    | none => rfl
    | some o => exact absurd (n p m) (iv.old p (by rw [e]; exact fun z => by cases z))
theorem ws_retV {n : Nat} {p : Addr} {x : D} (h : δ[n]? = some (.own p x)) (q : k.rt (.new x)) : Ws π (tRet (tVar n)) k δ := fun H0 X0 L X H σ D iv ev ow en => by
  obtain ⟨v, e1, rfl, xp, np, t⟩ := ev.get h (fun z => by cases z)
  refine ⟨_, e1, en.rt X H _ (.new x) iv (Fr.refl X H) (fun _ z => z) ⟨p, rfl, (ow n _ p h rfl).1, t.less (cut_less fun a z => z.elim (iv.sub a) fun z => by rw [z]; exact xp)⟩ q⟩
theorem ws_retN (q : k.rt (.d .non)) : Ws π tRetN k δ := fun H0 X0 L X H σ D iv ev ow en => en.rt X H .non (.d .non) iv (Fr.refl X H) (fun _ z => z) At.non q
/-- a name is given up: what it holds, others may hold from here on -/
theorem ws_frz {n : Nat} {p : Addr} {x : D} (h : δ[n]? = some (.own p x)) (q : Ws π t k (δ.set n (.d x))) : Ws π t k δ := fun H0 X0 L X H σ D iv ev ow en => by
  obtain ⟨v, e1, rfl, xp, np, a⟩ := ev.get h (fun z => by cases z)
  have hp : ¬ X0 p := (ow n _ p h rfl).2
  have hp0 : H0 p = none := (ow n _ p h rfl).1
  -- p is no longer set apart
  let X' : Xs := fun a => X a ∧ a ≠ p
  have m : Mo (cut X H) (cut X' H) := cut_less fun a z => z.1
  have nX : ¬ X' p := fun z => z.2 rfl
  have hat : At (cut X' H) (.ref p) x := by
    cases x with
    | lst ds => obtain ⟨vs, e, t⟩ := a; exact .lst (cut_of nX e) (t.mono m)
    | dct kd => obtain ⟨kv, e, e2, t⟩ := a; exact .dct (.inl (cut_of nX e)) e2 (t.mono m)
    | dcT kd => obtain ⟨kv, e, e2, t⟩ := a; exact .dcT (.inl (cut_of nX e)) e2 (t.mono m)
    | obj C fd => obtain ⟨dx, fs, e, e2, t⟩ := a; exact .obj (cut_of nX e) e2 (t.mono m)
    | _ => exact a.elim
  have iv' : Iv π H0 X0 L X' H := ⟨⟨fun q z => iv.ok.dom q z.1, fun q e => ⟨⟨(iv.ok.pot q e).1, fun z => np (z ▸ e)⟩, (iv.ok.pot q e).2⟩⟩, iv.ok0, iv.kp, fun q z => ⟨iv.sub q z, fun e => hp (e ▸ z)⟩, fun a u e => by
    obtain ⟨h1, h2⟩ := iv.lk a u e
    exact ⟨h1, fun z => h2 z.1⟩, iv.old⟩
  have es : σ.set n (some (.ref p)) = σ := by
    apply List.ext_getElem?
    intro j
    rw [List.getElem?_set]
    split
    · rename_i e
      subst e
      have hl := (List.getElem?_eq_some_iff.mp e1).1
      rw [if_pos hl, e1]
    · rfl
  have ev' : Ev π X' H σ (δ.set n (.d x)) := by
    have nd := ev.nd
    have z : Ev π X' H (σ.set n (some (.ref p))) (δ.set n (.d x)) := by
      refine ⟨by rw [List.length_set, List.length_set]; exact ev.len, fun j s o h1 h2 => ?_, fun j l s t q h1 h2 a1 a2 => ?_⟩
      · rcases set_get h1 with ⟨rfl, rfl⟩ | ⟨nj, h1⟩
        · rcases set_get h2 with ⟨_, rfl⟩ | ⟨n, _⟩
          · exact ⟨_, rfl, hat⟩
          · exact absurd rfl n
        · rcases set_get h2 with ⟨e', _⟩ | ⟨_, h2⟩
          · exact absurd e' nj
          · have y := ev.at_ j s o h1 h2
            cases s with
            | un => trivial
            | d w => obtain ⟨v, e, a⟩ := y; exact ⟨v, e, a.mono m⟩
            | own q w =>
              obtain ⟨v, e, e2, xq, nq, a⟩ := y
              exact ⟨v, e, e2, ⟨xq, fun z => nj (nd j n _ _ p h1 h (by rw [z]; rfl) rfl)⟩, nq, a.less m⟩
            | new w =>
              obtain ⟨v, e, q, e2, nq, t⟩ := y
              exact absurd nq t.some
            | pot => exact y
            | raw w => exact y
            | ex a0 dd fds => obtain ⟨v, e, a⟩ := y; exact ⟨v, e, Exat.mono m a⟩
            | cl i as cs =>
              obtain ⟨v, e, e2, a2, b⟩ := y
              exact ⟨v, e, e2, fun q mq => ⟨⟨(a2 q mq).1, fun z => nj (nd j n _ _ p h1 h (z ▸ mq) rfl)⟩, (a2 q mq).2⟩, b.keep (fun _ _ _ e => e) m⟩
            | ncl i cs =>
              obtain ⟨v, e, as, ⟨q, hq, _⟩, n, b⟩ := y
              exact absurd (n q (List.mem_of_getElem? hq)) (b.ex (List.mem_of_getElem? hq))
      · rcases set_get h1 with ⟨rfl, rfl⟩ | ⟨n1, h1⟩
        · cases a1
        · rcases set_get h2 with ⟨rfl, rfl⟩ | ⟨n2, h2⟩
          · cases a2
          · exact nd j l s t q h1 h2 a1 a2
    rw [es] at z
    exact z
  have fr : Fr X H X' H := ⟨m, fun _ z => z⟩
  refine q H0 X0 L X' H σ D iv' ev' (ow.put fun p e => by cases e) (en.fr fr)
end
end Dt
namespace Dt
open PySem PySem.Spec PyProof.Rows L2 Ly
def isArg : Rv → Bool
  | .d _ => true
  | .pot => true
  | .raw _ => true
  | _ => false
def noPot : Rv → Bool
  | .pot => false
  | _ => true
/-- a def over data: B says what must be so of the arguments that a result k may be counted on -/
def spW (pt : Bool) (B : List Rv → (Rv → Prop) → Prop) : Sp := fun vs H Q _ => ∃ (π : Po) (X : Xs) (rs : List Rv) (k : Rv → Prop), π.pot.isSome = pt ∧ Ok π X H ∧ rs.all isArg = true ∧ RAts π X H H rs vs ∧ B rs k ∧
  ∀ v r H', Kp π H H' → Fre r → RAt π X H H' r v → k r → Q v H'
def uns (n : Nat) : List Rv := List.replicate n .un
theorem undo_none {H : Hp} : undo (fun _ => none) H = H := by
  funext a
  rfl
theorem RAts.get {π : Po} {X : Xs} {H0 H : Hp} : ∀ {rs : List Rv} {vs : List V} {i : Nat} {r : Rv} {v : V}, RAts π X H0 H rs vs → rs[i]? = some r → vs[i]? = some v → RAt π X H0 H r v
  | [], [], _, _, _, _, h, _ => by simp at h
  | _ :: _, _ :: _, 0, _, _, ⟨a, _⟩, h, g => by simp at h g; subst h; subst g; exact a
  | _ :: _, _ :: _, i + 1, _, _, ⟨_, b⟩, h, g => RAts.get (i := i) b (by simpa using h) (by simpa using g)
  | [], _ :: _, _, _, _, a, _, _ => a.elim
  | _ :: _, [], _, _, _, a, _, _ => a.elim
theorem Ev.start {π : Po} {X : Xs} {H : Hp} {rs : List Rv} {vs : List V} {N : List Str} {m : Nat} (a : RAts π X H H rs vs) (h : rs.all isArg = true) (hm : N.length - vs.length = m) : Ev π X H (L2.start N vs) (rs ++ uns m) := by
  refine ⟨?_, fun i r o h1 h2 => ?_, fun i j r s p h1 h2 a1 a2 => ?_⟩
  · unfold L2.start uns
    rw [List.length_append, List.length_append, List.length_map, List.length_replicate, List.length_replicate, a.length, hm]
  · unfold L2.start at h2
    rcases Nat.lt_or_ge i rs.length with hl | hl
    · rw [List.getElem?_append_left hl] at h1
      have hl2 : i < vs.length := by rw [← a.length]; exact hl
      rw [List.getElem?_append_left (by rw [List.length_map]; exact hl2), List.getElem?_map, List.getElem?_eq_getElem hl2] at h2
      cases h2
      exact SAt.of (a.get h1 (List.getElem?_eq_getElem hl2))
    · rw [List.getElem?_append_right hl] at h1
      unfold uns at h1
      rw [List.getElem?_replicate] at h1
      split at h1
      · cases h1; trivial
      · cases h1
  · exfalso
    rcases Nat.lt_or_ge i rs.length with hl | hl
    · rw [List.getElem?_append_left hl] at h1
      have z := List.all_eq_true.mp h r (List.mem_of_getElem? h1)
      cases r <;> first | (cases a1; done) | (cases z; done)
    · rw [List.getElem?_append_right hl] at h1
      unfold uns at h1
      rw [List.getElem?_replicate] at h1
      split at h1
      · cases h1; cases a1
      · cases h1
theorem own_args {H0 : Hp} {X0 : Xs} {rs : List Rv} {m : Nat} (h : rs.all isArg = true) : Own0 H0 X0 (rs ++ uns m) := fun i r p h1 a1 => by
  exfalso
  rcases Nat.lt_or_ge i rs.length with hl | hl
  · rw [List.getElem?_append_left hl] at h1
    have z := List.all_eq_true.mp h r (List.mem_of_getElem? h1)
    cases r <;> first | (cases a1; done) | (cases z; done)
  · rw [List.getElem?_append_right hl] at h1
    unfold uns at h1
    rw [List.getElem?_replicate] at h1
    split at h1
    · cases h1; cases a1
    · cases h1
theorem run_body {pt : Bool} {B : List Rv → (Rv → Prop) → Prop} {t : TS} {N : List Str} {m n : Nat} {vs : List V} {H : Hp} {Q : VK} {E : XK} (hm : N.length - n = m) (hB : ∀ rs k, B rs k → rs.length = n)
    (ht : ∀ (π : Po) (rs : List Rv) (k : Rv → Prop), π.pot.isSome = pt → B rs k → Ws π t { nx := fun _ => k (.d .non), rt := k } (rs ++ uns m)) (h : spW pt B vs H Q E) : t { nx := fun _ H' => Q .non H', rt := Q } (L2.start N vs) H := by
  obtain ⟨π, X, rs, k, hp, ok, ha, at_, b, q⟩ := h
  have hl := hB rs k b
  refine ht π rs k hp b H X (fun _ => none) X H _ _ ⟨ok, ok, by rw [undo_none]; exact ok.kp, fun _ x => x, fun a u e => (by cases e), fun _ x => x⟩ (Ev.start at_ ha (by rw [← at_.length, hl]; exact hm)) (own_args ha) ⟨fun X' H' σ δ iv _ _ _ w => ?_, fun X' H' σ δ iv _ _ _ w => w.elim, fun X' H' σ δ iv _ _ _ w => w.elim, fun X' H' v r iv _ no a w => ?_, fun _ _ _ _ _ _ _ _ _ _ z => z.elim, fun _ _ => rfl⟩
  · have z := iv.kp
    rw [undo_none] at z
    exact q .non (.d .non) H' z (fun _ z => z) At.non w
  · have z := iv.kp
    rw [undo_none] at z
    exact q v r H' z no a w
theorem body_W {W : Wd} {k : Nat} {N : List Str} {qual : Str} {st : Stmt} {pt : Bool} {B : List Rv → (Rv → Prop) → Prop} {n m : Nat} (hm : N.length - n = m) (hB : ∀ rs k, B rs k → rs.length = n)
    (hb : ∀ (f : Addr) (cdv : Value) (A : Around) (outer : List Env) (s : Shared) (H : Hp) (E : XK), Room k (A.deeper (envOfC qual (defScope st) s.heap.objs.size f cdv)) →
      ∃ t, PSs (cxOf CX0 W.P W.w W.K W.mg W.base N qual (defScope st) f cdv A outer s H E).nox (defBody st) t ∧ ∀ (π : Po) (rs : List Rv) (kr : Rv → Prop), π.pot.isSome = pt → B rs kr → Ws π t { nx := fun _ => kr (.d .non), rt := kr } (rs ++ uns m)) :
    BodyOk W k N qual st (spW pt B) := fun f cdv A outer s H vs Q E hr h => by
  obtain ⟨t, ps, w⟩ := hb f cdv A outer s H E hr
  exact ⟨t, ps, run_body hm hB w h⟩
theorem len_W {pt : Bool} {B : List Rv → (Rv → Prop) → Prop} {n : Nat} (hB : ∀ rs k, B rs k → rs.length = n) : ∀ vs H Q E, spW pt B vs H Q E → vs.length = n := fun vs H Q E ⟨π, X, rs, k, _, _, _, at_, b, _⟩ => by rw [← at_.length]; exact hB rs k b
def fzA : List Rv → Option (List Rv)
  | [] => some []
  | r :: rs => match (match r with | .d x => some (Rv.d x) | .new x => some (.d x) | .pot => some .pot | .raw v => some (.raw v) | .ncl i cs => (fzC cs i).map Rv.d | _ => none), fzA rs with
    | some x, some xs => some (x :: xs)
    | _, _ => none
theorem fzA_all : ∀ {as rs : List Rv}, fzA as = some rs → rs.all isArg = true
  | [], _, h => by cases h; rfl
  | r :: as, rs, h => by
    unfold fzA at h
    cases h2 : fzA as with
    | none => rw [h2] at h; cases r <;> (first | (cases h; done) | (rename_i i cs; dsimp only at h; cases hc : fzC cs i <;> rw [hc] at h <;> cases h))
    | some xs =>
      rw [h2] at h
      have z := fzA_all h2
      cases r <;> first | (cases h; done) | (cases h; simpa [isArg] using z) | (rename_i i cs; dsimp only at h; cases hc : fzC cs i <;> rw [hc] at h <;> first | (cases h; done) | (cases h; simpa [isArg] using z))
theorem RAts.fzA {π : Po} {X : Xs} {H0 H : Hp} (o0 : Ok π X H0) : ∀ {as rs : List Rv} {vs : List V}, RAts π X H0 H as vs → fzA as = some rs → RAts π X H H rs vs
  | [], _, [], _, h => by cases h; trivial
  | r :: as, rs, v :: vs, ⟨a, b⟩, h => by
    unfold Dt.fzA at h
    cases h2 : Dt.fzA as with
    | none => rw [h2] at h; cases r <;> (first | (cases h; done) | (rename_i i cs; dsimp only at h; cases hc : fzC cs i <;> rw [hc] at h <;> cases h))
    | some xs =>
      rw [h2] at h
      have z := b.fzA o0 h2
      cases r with
      | d x => cases h; exact ⟨a, z⟩
      | new x => cases h; exact ⟨RAt.fz (r := .new x) o0 a rfl, z⟩
      | ncl i cs =>
        dsimp only at h
        cases hc : fzC cs i with
        | none => rw [hc] at h; cases h
        | some x => rw [hc] at h; cases h; exact ⟨RAt.fz (r := .ncl i cs) o0 a hc, z⟩
      | pot => cases h; exact ⟨a, z⟩
      | raw w => cases h; exact ⟨a, z⟩
      | _ => cases h
  | [], _, _ :: _, a, _ => a.elim
  | _ :: _, _, [], a, _ => a.elim
theorem RAts.free {π : Po} {X : Xs} {H : Hp} : ∀ {rs : List Rv} {vs : List V}, rs.all isArg = true → rs.all noPot = true → RAts π X H H rs vs → RAts no X H H rs vs
  | [], [], _, _, _ => trivial
  | r :: rs, v :: vs, h, g, ⟨a, b⟩ => by
    simp only [List.all_cons, Bool.and_eq_true] at h g
    refine ⟨?_, b.free h.2 g.2⟩
    cases r with
    | d x => exact a
    | raw w => exact a
    | pot => cases g.1
    | _ => cases h.1
  | [], _ :: _, _, _, a => a.elim
  | _ :: _, [], _, _, a => a.elim
section
variable {π : Po} {k : Rv → Prop} {B : List Rv → (Rv → Prop) → Prop} {as rs : List Rv} {E : XK} {pt : Bool}
/-- a call of a def that draws, or where no pot is -/
theorem wcb_W (hp : π.pot.isSome = pt) (hf : fzA as = some rs) (q : B rs k) : WCb π (fun vs H Q => spW pt B vs H Q E) as k := fun X H0 H xs Q o0 o k0 a h =>
  ⟨π, X, rs, k, hp, o, fzA_all hf, a.fzA o0 hf, q, fun v r H' k1 _ ra kr => h v r H' k1 (ra.base o0 k0) kr⟩
theorem Ok.none {X : Xs} {H : Hp} (o : Ok π X H) : Ok no X H := ⟨o.dom, fun q e => absurd e mu_no⟩
/-- a call of a def without the pot -/
theorem wcb_W0 (hf : fzA as = some rs) (hn : rs.all noPot = true) (q : B rs (fun r => r ≠ .pot ∧ k r)) : WCb π (fun vs H Q => spW false B vs H Q E) as k := fun X H0 H xs Q o0 o k0 a h =>
  ⟨no, X, rs, _, rfl, o.none, fzA_all hf, (a.fzA o0 hf).free (fzA_all hf) hn, q, fun v r H' k1 no ra kr => by
    have k2 : Kp π H H' := Kp.of_same o k1.same
    have ra2 : RAt π X H H' r v := by
      cases r with
      | own p x => exact absurd rfl (no p)
      | cl i as cs =>
        obtain ⟨⟨p, hp, _⟩, _⟩ := ra
        exact absurd (List.mem_of_getElem? hp) (no p)
      | pot => exact absurd rfl kr.1
      | _ => exact ra
    exact h v r H' k2 (ra2.base o0 k0) kr.2⟩
end
section
variable {W : Wd} {k : Nat} {C : Addr} {x m qual : Str} {st : Stmt} {N ps : List Str} {B : List Rv → (Rv → Prop) → Prop} {pt : Bool}
theorem cl_W (g : GF W.K W.mg x st) (S : FnScope N ps (defScope st)) (hb : BindOk x x st ps) (hB : ∀ rs k, B rs k → rs.length = ps.length) (hbody : BodyOk W k N x st (spW pt B)) : Cl W (k + 1) x (spW pt B) := cl_of' g S hb (len_W hB) hbody
theorem sm_W (g : GS W.K C m qual st) (S : FnScope N ps (defScope st)) (hb : BindOk m qual st ps) (hB : ∀ rs k, B rs k → rs.length = ps.length) (hbody : BodyOk W k N qual st (spW pt B)) : Sm W (k + 1) C m (spW pt B) := sm_of g S hb (len_W hB) hbody
theorem pp_W (g : GP W.K C m qual st) (S : FnScope N ps (defScope st)) (hb : BindOk m qual st ps) (hB : ∀ rs k, B rs k → rs.length = ps.length) (hbody : BodyOk W k N qual st (spW pt B)) : Pp W (k + 1) C m (spW pt B) := pp_of g S hb (len_W hB) hbody
end
section
variable {π : Po} {δ : List Rv} {k : Rv → Prop} {ta : TE} {t : TA} {K : PySem.W.Frag} {f m : Str} {C : Addr} {sp : Sp} {dvs : List V}
def Rv.ob : Rv → Option (Addr × List (Str × D))
  | .d (.obj C fs) => some (C, fs)
  | .own _ (.obj C fs) => some (C, fs)
  | .new (.obj C fs) => some (C, fs)
  | _ => none
theorem RAt.ob {X : Xs} {H0 H : Hp} {r : Rv} {v : V} {fd : List (Str × D)} (a : RAt π X H0 H r v) (h : r.ob = some (C, fd)) : ∃ p dx fs, v = .ref p ∧ H p = some (.ins C dx fs) ∧ fs.map (·.1) = fd.map (·.1) ∧ Ats (cut X H) (fs.map (·.2)) (fd.map (·.2)) := by
  cases r with
  | d x =>
    cases x with
    | obj C' es => cases h; cases a with | obj e e2 t => exact ⟨_, _, _, rfl, (of_cut e).2, e2, t⟩
    | _ => cases h
  | own p x =>
    cases x with
    | obj C' es => cases h; obtain ⟨e, _, _, dx, fs, e2, e3, t⟩ := a; exact ⟨p, dx, fs, e, e2, e3, t⟩
    | _ => cases h
  | new x =>
    cases x with
    | obj C' es => cases h; obtain ⟨p, e, _, dx, fs, e2, e3, t⟩ := a; exact ⟨p, dx, fs, e, e2, e3, t.mono plus_sub⟩
    | _ => cases h
  | _ => cases h
theorem lookup_at {H : Hp} : ∀ {fs : List (Str × V)} {fd : List (Str × D)} {d : D}, fs.map (·.1) = fd.map (·.1) → Ats H (fs.map (·.2)) (fd.map (·.2)) → fd.lookup f = some d → ∃ v, fs.lookup f = some v ∧ At H v d
  | [], [], _, _, _, h => by cases h
  | [], _ :: _, _, h, _, _ => by cases h
  | _ :: _, [], _, h, _, _ => by cases h
  | (a, v) :: fs, (b, c) :: fd, d, h, t, g => by
    simp only [List.map_cons, List.cons.injEq] at h
    obtain ⟨e, h⟩ := h
    cases t with
    | cons a1 t =>
      have e : a = b := e
      subst e
      rw [List.lookup_cons] at g ⊢
      cases hf : f == a with
      | true => rw [hf] at g; cases g; exact ⟨v, rfl, a1⟩
      | false => rw [hf] at g; exact lookup_at h t g
theorem lookup_no : ∀ {fs : List (Str × V)} {fd : List (Str × D)}, fs.map (·.1) = fd.map (·.1) → fd.lookup f = none → fs.lookup f = none
  | [], [], _, h => rfl
  | [], _ :: _, h, _ => by cases h
  | _ :: _, [], h, _ => by cases h
  | (a, v) :: fs, (b, c) :: fd, h, g => by
    simp only [List.map_cons, List.cons.injEq] at h
    obtain ⟨e, h⟩ := h
    have e : a = b := e
    subst e
    rw [List.lookup_cons] at g ⊢
    cases hf : f == a with
    | true => rw [hf] at g; cases g
    | false => rw [hf] at g; exact lookup_no h g
/-- o.f -/
def Fld (K : PySem.W.Frag) (f : Str) (r : Rv) (k : Rv → Prop) : Prop := ∃ C fd d, r.ob = some (C, fd) ∧ Cls K C ∧ NoAttr K C f ∧ fd.lookup f = some d ∧ k (.d d)
theorem w_fld (q : Wp π ta δ fun r => Fld K f r k) : Wp π (tFld K ta f) δ k := fun X H σ Q o e h => by
  refine q X H σ _ o e fun v r H1 k1 a w => ?_
  obtain ⟨C, fd, d, ho, c, n, l, kd⟩ := w
  obtain ⟨p, dx, fs, rfl, e1, e2, t⟩ := a.ob ho
  obtain ⟨v, hv, av⟩ := lookup_at e2 t l
  exact ⟨p, C, dx, fs, v, rfl, e1, c, n, hv, h v (.d d) H1 k1 av kd⟩
/-- o.p, a property -/
theorem w_prop {E : XK} (q : Wp π ta δ fun r => (∃ fd, r.ob = some (C, fd)) ∧ WCb π (fun vs H Q => sp vs H Q E) [r] k) : Wp π (tProp C sp [] E ta) δ k := fun X H σ Q o e h => by
  refine q X H σ _ o e fun v r H1 k1 a w => ?_
  obtain ⟨⟨fd, ho⟩, w⟩ := w
  obtain ⟨p, dx, fs, rfl, e1, e2, t⟩ := a.ob ho
  exact ⟨p, dx, fs, rfl, e1, w X H H1 [.ref p] Q o (o.keep k1) k1 ⟨a, trivial⟩ fun v z H' k2 ra kz => h v z H' (k1.trans k2) ra kz⟩
/-- o.m(..) -/
theorem w_meth (q : Wp π ta δ fun r => (∃ fd, r.ob = some (C, fd) ∧ fd.lookup m = none) ∧ WpA π t δ fun as => WCb π (fun vs H Q => sp vs H Q E0) (r :: as) k) : Wp π (tMeth C m sp [] E0 ta t) δ k := fun X H σ Q o e h => by
  refine i_meth ?_
  refine q X H σ _ o e fun v r H1 k1 a w => ?_
  obtain ⟨⟨fd, ho, hm⟩, w⟩ := w
  obtain ⟨p, dx, fs, rfl, e1, e2, _⟩ := a.ob ho
  refine ⟨p, dx, fs, rfl, e1, lookup_no e2 hm, ?_⟩
  have o1 := o.keep k1
  refine w X H1 σ _ o1 (e.keep o k1) fun vs as H2 k2 a2 w2 => ?_
  exact w2 X H H2 (.ref p :: vs) Q o (o1.keep k2) (k1.trans k2) ⟨a.keep o1 k1 o k2, a2.base o k1⟩ fun v z H' k3 ra kz => h v z H' ((k1.trans k2).trans k3) ra kz
theorem w_smeth (q : WpA π t δ fun as => WCb π (fun vs H Q => sp vs H Q E0) as k) : Wp π (tSMeth C sp [] (tC (.ref C)) t) δ k := fun X H σ Q o e h => by
  refine i_smeth ?_
  exact w_cb (r := fun vs H Q => sp vs H Q E0) q X H σ Q o e h
end
end Dt
namespace Ly
open PySem PySem.Spec PyProof.Rows L2
def rForJ (J : L2.It) (g : TG) (tb : TS) (D : Ends) (σ : L2.St) (H1 : Hp) : Prop := ∃ W : Nat → Nat → L2.St → Hp → Prop, (∃ m, W 0 m σ H1) ∧ ∀ i m σ H, W i m σ H →
  (J.stop i H ∧ D.nx σ H) ∨ (J.go i H ∧ ∃ N : L2.St → Hp → Prop, (∀ σ' H', N σ' H' → ∃ m', m' < m ∧ W (i + 1) m' σ' H') ∧ ∀ x H', J.yld i H x H' → g x σ H' fun σ2 H2 => tb { D with nx := N, ct := N, bk := D.nx } σ2 H2)
section
variable {K : PySem.W.Frag} {σ : L2.St} {H : Hp} {D : Ends} {tb : TS} {g : TG} {te : TE} {ta : TA} {a : Addr} {xs : List V}
/-- f-strings: a part by repr -/
def rFmtR : V → Hp → VK → Prop := fun x H1 Q => (∃ y : Str, x = .str y ∧ (reprText y).length ≤ sizeLine ∧ Q (.str (reprText y)) H1) ∨ ∃ i : Int, x = .int i ∧ i.natAbs.log2 < 1920 ∧ Q (.str (toString i)) H1
variable {Q : VK}
theorem i_fmtR_s {y : Str} (h : (reprText y).length ≤ 100000) (q : Q (.str (reprText y)) H) : rFmtR (.str y) H Q := .inl ⟨y, rfl, sl_of h, q⟩
end
end Ly
namespace Ly
open PySem PySem.Spec PyProof.Rows L2
theorem strs_at {xs : List Str} {its : List Value} (r : Vals (xs.map V.str) its) : its.length = xs.length ∧ ∀ (j : Nat) (h : j < its.toArray.size), ∃ t, its.toArray[j] = .str (xs.getD j Str.empty) t := by
  have e := r.length
  rw [List.length_map] at e
  refine ⟨e.symm, fun j h => ?_⟩
  have hj : j < its.length := by simpa using h
  have hx : (xs.map V.str)[j]? = some (V.str (xs.getD j Str.empty)) := by
    rw [List.getElem?_map, List.getD_eq_getElem?_getD]
    have : j < xs.length := by omega
    simp [this]
  obtain ⟨u, eu, ru⟩ := r.get hx
  obtain ⟨t, rfl⟩ := ru
  refine ⟨t, ?_⟩
  have : its[j]? = some its[j] := List.getElem?_eq_getElem hj
  rw [this] at eu
  simpa using Option.some.inj eu
end Ly
namespace Ly
open PySem PySem.Spec PyProof.Rows L2
end Ly
namespace Ly
open PySem PySem.Spec PyProof.Rows L2
abbrev T3 := Str × Str × Str
end Ly
namespace Ly
open PySem PySem.Spec PyProof.Rows L2
def rReprS : List V → Hp → VK → Prop := fun xs H Q => ∃ x : Str, xs = [.str x] ∧ (reprText x).length ≤ sizeLine ∧ Q (.str (reprText x)) H
theorem call_reprS {X : Cx} : CallR X (.builtin "repr") rReprS := by
  intro pins s σ H xs us Q I r q
  obtain ⟨x, rfl, ln, q⟩ := q
  obtain ⟨u, rfl, ru⟩ := vals1 r
  obtain ⟨t, rfl⟩ := ru
  refine PySem.P.repr_of_str ?_ ln
  exact ⟨.str (reprText x), H, I.turnedL (ch := []) (fun b o _ e => e) (fun b z => by cases z), ⟨_, rfl⟩, q⟩
theorem call_or {X : Cx} {f : Value} {r r' : List V → Hp → VK → Prop} (h : CallR X f r) (h' : CallR X f r') : CallR X f (fun xs H Q => r xs H Q ∨ r' xs H Q) := by
  intro pins s σ H xs us Q I rv q
  rcases q with q | q
  · exact h pins s σ H xs us Q I rv q
  · exact h' pins s σ H xs us Q I rv q
end Ly
namespace Ly
open PySem PySem.Spec PyProof.Rows L2
end Ly
namespace Ly
open PySem PySem.Spec PyProof.Rows L2
end Ly
namespace Ly
open PySem PySem.Spec PyProof.Rows L2
def dT (k : T3) : PyData := .tuple [.str k.1, .str k.2.1, .str k.2.2]
/-- a tuple of three texts -/
def TripAt (H : Hp) (r : Addr) (k : T3) : Prop := H r = some (.tup [.str k.1, .str k.2.1, .str k.2.2])
theorem TripAt.dp {K : PySem.W.Frag} {H : Hp} {r : Addr} {k : T3} (h : TripAt H r k) : Dp K H (.ref r) (dT k) := .tup (SqT.of h) (.cons (.str _) (.cons (.str _) (.cons (.str _) .nil)))
theorem TripAt.same {H H' : Hp} {r : Addr} {k : T3} (h : TripAt H r k) (s : Same H H') : TripAt H' r k := s _ _ h
theorem TripAt.nl {H H' : Hp} {r : Addr} {k : T3} (h : TripAt H r k) (s : NL H H') : TripAt H' r k := s _ _ (fun a z => by cases z) h
/-- a list of tuples of three texts -/
def Trips (H : Hp) (L : List (Addr × T3)) : Prop := ∀ x ∈ L, TripAt H x.1 x.2
def refs {α : Type} (L : List (Addr × α)) : List V := L.map fun x => V.ref x.1
def keys {α : Type} (L : List (Addr × α)) : List α := L.map fun x => x.2
theorem Trips.same {H H' : Hp} {L : List (Addr × T3)} (h : Trips H L) (s : Same H H') : Trips H' L := fun x hx => (h x hx).same s
theorem Trips.nl {H H' : Hp} {L : List (Addr × T3)} (h : Trips H L) (s : NL H H') : Trips H' L := fun x hx => (h x hx).nl s
theorem Trips.dp {K : PySem.W.Frag} {H : Hp} : ∀ {L : List (Addr × T3)}, Trips H L → DpAll K H (refs L) ((keys L).map dT)
  | [], _ => .nil
  | x :: L, h => .cons (h x (List.mem_cons_self ..)).dp (Trips.dp fun y hy => h y (List.mem_cons_of_mem _ hy))
end Ly
namespace Ly
open PySem PySem.Spec PyProof.Rows L2
end Ly
namespace Ly
open PySem PySem.Spec PyProof.Rows L2
theorem pi_tupK {X : Cx} {K : PySem.W.Frag} {e tg : Expr} {te : TE} (hK : X.K = K) (he : PE X e te) : PI X tg e (iTup K te) := by
  subst hK
  exact pi_tup he
theorem pg_tupK {X : Cx} {K : PySem.W.Frag} {es : List Expr} {k : Nat} {pos : Pos} {t : TGs} {n : Nat} (hK : X.K = K) (hc : X.calm = true) (h : PGs X es t)
    (hn : (assignEach es X.env).length = n := by rfl) (hst : (assignEach es X.env).findIdx? (·.1) = none := by rfl) : PG X (.Tuple es k pos) (gTup K n t) := by
  subst hK
  exact pg_tup hc h hn hst
end Ly
namespace Dt
open PySem PySem.Spec PyProof.Rows L2 Ly
/-- an iterator that gives these, one after another, wherever the body has come to -/
structure Itw (π : Po) (J : L2.It) (X : Xs) (H : Hp) (Z : Hp → Prop) (ds : List D) : Prop where
  go : ∀ (i : Nat) (X' : Xs) (H' : Hp), Fr X H X' H' → Z H' → i < ds.length → J.go i H' ∧ ∀ x H'', J.yld i H' x H'' → Ok π X' H' → Kp π H' H'' ∧ ∃ d, ds[i]? = some d ∧ At (cut X' H'') x d
  stop : ∀ (i : Nat) (X' : Xs) (H' : Hp), Fr X H X' H' → Z H' → ds.length ≤ i → J.stop i H'
def Any : Hp → Prop := fun _ => True
def WpI (π : Po) (wi : TI) (δ : List Rv) (k : List D → Prop) : Prop :=
  ∀ (X : Xs) (H : Hp) (σ : L2.St) (R : L2.It → Hp → Prop), Ok π X H → Ev π X H σ δ → (∀ J H' ds, Kp π H H' → Itw π J X H' Any ds → k ds → R J H') → wi σ H R
section
variable {π : Po} {δ : List Rv} {K : PySem.W.Frag} {te : TE} {ta : TA} {k : List D → Prop}
theorem itw_list {X : Xs} {H : Hp} {p : Addr} {ds : List D} (a : At (cut X H) (.ref p) (.lst ds)) : Itw π (Itl K p) X H Any ds := by
  refine ⟨fun i X' H' f _ hi => ?_, fun i X' H' f _ hi => ?_⟩
  · cases a.mono f.mo with
    | lst e t =>
      obtain ⟨v, hv, _⟩ := t.get (List.getElem?_eq_getElem hi)
      refine ⟨⟨_, v, SqL.of (of_cut e).2, hv⟩, fun x H'' y ok => ?_⟩
      obtain ⟨rfl, y⟩ := y
      obtain ⟨d, hd, ad⟩ := t.got (y _ (SqL.of (of_cut e).2))
      exact ⟨ok.kp, d, hd, ad⟩
  · cases a.mono f.mo with
    | lst e t => exact ⟨_, SqL.of (of_cut e).2, by rw [t.length]; exact hi⟩
theorem itw_tup {X : Xs} {H : Hp} {p : Addr} {ds : List D} (a : At (cut X H) (.ref p) (.tup ds)) : Itw π (Itt K p) X H Any ds := by
  refine ⟨fun i X' H' f _ hi => ?_, fun i X' H' f _ hi => ?_⟩
  · cases a.mono f.mo with
    | tup e t =>
      obtain ⟨v, hv, _⟩ := t.get (List.getElem?_eq_getElem hi)
      refine ⟨⟨_, v, SqT.of (of_cut e).2, hv⟩, fun x H'' y ok => ?_⟩
      obtain ⟨rfl, y⟩ := y
      obtain ⟨d, hd, ad⟩ := t.got (y _ (SqT.of (of_cut e).2))
      exact ⟨ok.kp, d, hd, ad⟩
  · cases a.mono f.mo with
    | tup e t => exact ⟨_, SqT.of (of_cut e).2, by rw [t.length]; exact hi⟩
theorem wi_list (q : Wp π te δ fun r => ∃ ds, r.fz = some (.lst ds) ∧ k ds) : WpI π (iList K te) δ k := fun X H σ R o e h => by
  refine q X H σ _ o e fun v r H1 k1 a w => ?_
  obtain ⟨ds, hf, kd⟩ := w
  have at_ := a.fz o hf
  cases id at_ with
  | lst e t => exact ⟨_, rfl, ⟨_, SqL.of (of_cut e).2⟩, h _ H1 ds k1 (itw_list at_) kd⟩
theorem wi_tup (q : Wp π te δ fun r => ∃ ds, r = .d (.tup ds) ∧ k ds) : WpI π (iTup K te) δ k := fun X H σ R o e h => by
  refine q X H σ _ o e fun v r H1 k1 a w => ?_
  obtain ⟨ds, rfl, kd⟩ := w
  cases id a with
  | tup e t => exact ⟨_, rfl, ⟨_, SqT.of (of_cut e).2⟩, h _ H1 ds k1 (itw_tup a) kd⟩
def rng (lo : Int) (n : Nat) : List D := (List.range n).map fun (i : Nat) => .int (lo + (i : Int))
theorem rng_get {lo : Int} {n i : Nat} (h : i < n) : (rng lo n)[i]? = some (.int (lo + (i : Int))) := by
  unfold rng
  rw [List.getElem?_map, List.getElem?_range h]
  rfl
theorem rng_len {lo : Int} {n : Nat} : (rng lo n).length = n := by
  unfold rng
  rw [List.length_map, List.length_range]
theorem itw_rng {X : Xs} {H : Hp} {lo : Int} {n : Nat} : Itw π (Itr lo n) X H Any (rng lo n) := by
  refine ⟨fun i X' H' f _ hi => ?_, fun i X' H' f _ hi => ?_⟩
  · rw [rng_len] at hi
    refine ⟨hi, fun x H'' y ok => ?_⟩
    obtain ⟨rfl, rfl⟩ := y
    exact ⟨ok.kp, _, rng_get hi, At.int _⟩
  · rw [rng_len] at hi
    exact hi
theorem wi_rng1 (q : WpA π ta δ fun as => ∃ j : Int, as = [.d (.int j)] ∧ -(2 ^ 62) ≤ j ∧ j < 2 ^ 62 ∧ k (rng 0 j.toNat)) : WpI π (iRng1 ta) δ k := fun X H σ R o e h => by
  refine q X H σ _ o e fun vs rs H1 k1 a w => ?_
  obtain ⟨j, rfl, h1, h2, kd⟩ := w
  match vs, a with
  | [v], ⟨a, _⟩ =>
    cases a
    exact ⟨j, rfl, h1, h2, h _ H1 _ k1 itw_rng kd⟩
end
section
variable {π : Po} {δ : List Rv} {k : Ke} {wi : TI} {g : TG} {tb : TS} {c : TT}
/-- what a loop asks of its items -/
def ForK (π : Po) (g : TG) (tb : TS) (k : Ke) (δ : List Rv) (ds : List D) : Prop := ∃ I : Nat → List Rv → Prop, I 0 δ ∧ (∀ (i : Nat) (d : D) (δ' : List Rv), ds[i]? = some d → I i δ' → WgE π g d δ' fun δ2 => Ws π tb { k with nx := I (i + 1), bk := k.nx, ct := I (i + 1) } δ2) ∧ ∀ δ', I ds.length δ' → k.nx δ'
theorem for_at {H0 : Hp} {X0 : Xs} {L : Lk} {X : Xs} {H H1 : Hp} {σ : L2.St} {D : Ends} {J : L2.It} {Z : Hp → Prop} {ds : List Dt.D} (iv1 : Iv π H0 X0 L X H1) (ev1 : Ev π X H1 σ δ) (ow : Own0 H0 X0 δ) (f01 : Fr X H X H1) (en : EndsOk π H0 X0 L X H k D) (it : Itw π J X H1 Z ds)
    (hZ : ∀ X' H', Iv π H0 X0 L X' H' → Z H') (w : ForK π g tb k δ ds) : rForJ J g tb D σ H1 := by
  obtain ⟨I, i0, turn, fin⟩ := w
  refine ⟨fun i m σ' H' => m = ds.length - i ∧ i ≤ ds.length ∧ ∃ X' δ', Iv π H0 X0 L X' H' ∧ Ev π X' H' σ' δ' ∧ Own0 H0 X0 δ' ∧ Fr X H1 X' H' ∧ I i δ', ⟨_, rfl, Nat.zero_le _, X, δ, iv1, ev1, ow, Fr.refl X H1, i0⟩, ?_⟩
  rintro i m σ' H' ⟨rfl, hi, X', δ', iv', ev', ow', f', hI⟩
  by_cases hlt : i < ds.length
  · obtain ⟨hg, hy⟩ := it.go i X' H' f' (hZ X' H' iv') hlt
    refine .inr ⟨hg, fun σ2 H2 => i + 1 ≤ ds.length ∧ ∃ X2 δ2, Iv π H0 X0 L X2 H2 ∧ Ev π X2 H2 σ2 δ2 ∧ Own0 H0 X0 δ2 ∧ Fr X H1 X2 H2 ∧ I (i + 1) δ2, fun σ2 H2 z => ⟨ds.length - (i + 1), by omega, rfl, z⟩, fun x H'' y => ?_⟩
    obtain ⟨k2, d, hd, ad⟩ := hy x H'' y iv'.ok
    have iv3 := iv'.keep k2
    refine turn i d δ' hd hI X' H'' σ' x _ iv3.ok (ev'.keep iv'.ok k2) ad fun σ3 δ3 ev3 s3 w3 => ?_
    have f13 := f'.trans (iv'.ok.fr k2)
    have ow3 : Own0 H0 X0 δ3 := fun i r p h1 a1 => ow' i r p (s3 i r p h1 a1) a1
    refine w3 H0 X0 L X' H'' σ3 _ iv3 ev3 ow3 ⟨fun X4 H4 σ4 δ4 iv4 ev4 ow4 f4 z => ?_, fun X4 H4 σ4 δ4 iv4 ev4 ow4 f4 z => ?_, fun X4 H4 σ4 δ4 iv4 ev4 ow4 f4 z => ?_, fun X4 H4 v r iv4 f4 no a z => ?_, en.xc, (en.fr (f01.trans f13)).hz⟩
    · exact ⟨hlt, X4, δ4, iv4, ev4, ow4, f13.trans f4, z⟩
    · exact en.nx X4 H4 σ4 δ4 iv4 ev4 ow4 (f01.trans (f13.trans f4)) z
    · exact ⟨hlt, X4, δ4, iv4, ev4, ow4, f13.trans f4, z⟩
    · exact en.rt X4 H4 v r iv4 (f01.trans (f13.trans f4)) no a z
  · have e : i = ds.length := by omega
    refine .inl ⟨it.stop i X' H' f' (hZ X' H' iv') (by omega), en.nx X' H' σ' δ' iv' ev' ow' (f01.trans f') (fin δ' (e ▸ hI))⟩
theorem ws_for (q : WpI π wi δ fun ds => ForK π g tb k δ ds) : Ws π (tFor wi g tb) k δ := fun H0 X0 L X H σ D iv ev ow en => by
  refine q X H σ _ iv.ok ev fun J H1 ds k1 it w => ?_
  exact for_at (iv.keep k1) (ev.keep iv.ok k1) ow (iv.ok.fr k1) en it (fun _ _ _ => trivial) w
end
def wipeD (δ : List Rv) : List Nat → List Rv
  | [] => δ
  | v :: vs => (wipeD δ vs).set v .un
theorem Ev.wipe {π : Po} {X : Xs} {H : Hp} {σ : L2.St} {δ : List Rv} (e : Ev π X H σ δ) : ∀ vs, Ev π X H (L2.wipe σ vs) (wipeD δ vs)
  | [] => e
  | v :: vs => by
    have z := e.wipe vs
    refine ⟨by rw [wipeD, L2.wipe, List.length_set, List.length_set]; exact z.len, fun j s o h1 h2 => ?_, fun j l s t p h1 h2 a1 a2 => ?_⟩
    · rcases set_get h1 with ⟨e1, e2⟩ | ⟨n, g1⟩
      · rw [e2]; trivial
      · rcases set_get h2 with ⟨e1, e2⟩ | ⟨_, g2⟩
        · exact absurd e1 n
        · exact z.at_ j s o g1 g2
    · rcases set_get h1 with ⟨e1, e2⟩ | ⟨n, g1⟩
      · rw [e2] at a1; cases a1
      · rcases set_get h2 with ⟨e1, e2⟩ | ⟨_, g2⟩
        · rw [e2] at a2; cases a2
        · exact z.nd j l s t p g1 g2 a1 a2
/-- a target of names vs alone -/
def GN (g : TG) (vs : List Nat) : Prop := ∀ v σ H (Q : L2.St → Hp → Prop), g v σ H Q → g v σ H fun σ' H' => L2.wipe σ' vs = L2.wipe σ vs ∧ Q σ' H'
theorem wipe_set {σ : L2.St} {i : Nat} {o : Option V} : ∀ {vs : List Nat}, i ∈ vs → L2.wipe (σ.set i o) vs = L2.wipe σ vs
  | v :: vs, h => by
    by_cases hm : i ∈ vs
    · show (L2.wipe (σ.set i o) vs).set v none = (L2.wipe σ vs).set v none
      rw [wipe_set hm]
    · have e : i = v := by
        rcases List.mem_cons.mp h with h | h
        · exact h
        · exact absurd h hm
      subst e
      have comm : ∀ (us : List Nat), i ∉ us → L2.wipe (σ.set i o) us = (L2.wipe σ us).set i o := by
        intro us
        induction us with
        | nil => intro _; rfl
        | cons u us ih =>
          intro hn
          have h1 : i ≠ u := fun z => hn (by rw [z]; exact List.mem_cons_self)
          show (L2.wipe (σ.set i o) us).set u none = ((L2.wipe σ us).set u none).set i o
          rw [ih fun z => hn (List.mem_cons_of_mem _ z), List.set_comm _ _ h1]
      show (L2.wipe (σ.set i o) vs).set i none = (L2.wipe σ vs).set i none
      rw [comm vs hm, List.set_set]
theorem gn_name {i : Nat} {vs : List Nat} (h : i ∈ vs) : GN (gName i) vs := fun v σ H Q q => ⟨wipe_set h, q⟩
section
variable {π : Po} {δ : List Rv} {k : Rv → Prop} {wi : TI} {g : TG} {tt : TT} {te : TE} {vs : List Nat}
theorem wipe_idem {σ : L2.St} : ∀ {vs : List Nat}, L2.wipe (L2.wipe σ vs) vs = L2.wipe σ vs
  | [] => rfl
  | v :: vs => by
    show (L2.wipe ((L2.wipe σ vs).set v none) vs).set v none = (L2.wipe σ vs).set v none
    by_cases hm : v ∈ vs
    · rw [wipe_set hm, wipe_idem]
    · have comm : ∀ (us : List Nat) (τ : L2.St), v ∉ us → L2.wipe (τ.set v none) us = (L2.wipe τ us).set v none := by
        intro us
        induction us with
        | nil => intro _ _; rfl
        | cons u us ih =>
          intro τ hn
          have h1 : v ≠ u := fun z => hn (by rw [z]; exact List.mem_cons_self)
          show (L2.wipe (τ.set v none) us).set u none = ((L2.wipe τ us).set u none).set v none
          rw [ih τ fun z => hn (List.mem_cons_of_mem _ z), List.set_comm _ _ h1]
      rw [comm vs _ hm, wipe_idem, List.set_set]
/-- what a comprehension asks of its items -/
def LcK (π : Po) (g : TG) (tt : TT) (te : TE) (vs : List Nat) (k : Rv → Prop) (δ : List Rv) (ds : List D) : Prop := ∃ I : Nat → List D → Prop, I 0 [] ∧ (∀ (i : Nat) (d : D) (acc : List D), ds[i]? = some d → I i acc →
      WgE π g d (wipeD δ vs) fun δ2 => WpT π tt δ2 fun b => if b = true then Wp π te δ2 fun r => ∃ x, r.fz = some x ∧ acc.length < 4000 ∧ I (i + 1) (acc ++ [x]) else I (i + 1) acc) ∧ ∀ acc, I ds.length acc → k (.new (.lst acc))
theorem lc_at {X : Xs} {H H1 : Hp} {σ : L2.St} {Q : VK} {J : L2.It} {Z : Hp → Prop} {ds : List D} (hg : GN g vs) (o : Ok π X H) (e1 : Ev π X H1 σ δ) (k1 : Kp π H H1) (it : Itw π J X H1 Z ds) (hZ : ∀ H', Kp π H1 H' → Z H') (w : LcK π g tt te vs k δ ds)
    (h : ∀ v r H', Kp π H H' → RAt π X H H' r v → k r → Q v H') : rLc J g tt te vs σ H1 Q := by
  obtain ⟨I, i0, turn, fin⟩ := w
  intro D nD
  have o1 := o.keep k1
  have nX : ¬ X D := fun z => o1.dom D z nD
  have okD : ∀ H', Kp π H1 H' → H' D ≠ none → Ok π (plus X D) H' := fun H' k2 hD => ⟨fun p z => z.elim ((o1.keep k2).dom p) fun z => by rw [z]; exact hD, fun q e => ⟨.inl (o1.pot q e).1, k2.pot q e⟩⟩
  have npD : ¬ Mu π D := fun z => nX (o1.pot D z).1
  refine ⟨fun i m H' => m = ds.length - i ∧ i ≤ ds.length ∧ ∃ acc vs', H' D = some (.lst vs') ∧ Ats (cut (plus X D) H') vs' acc ∧ Kp π H1 H' ∧ I i acc, ⟨_, rfl, Nat.zero_le _, [], [], upd_same, .nil, o1.kp.add o1 nD, i0⟩, ?_⟩
  rintro i m H' ⟨rfl, hi, acc, vs', hD, ha, k2, hI⟩
  have oD := okD H' k2 (by rw [hD]; exact fun z => by cases z)
  have fD : Fr X H1 (plus X D) H' := ⟨cut_keep (fun a u n e => k2.keep a u (fun z => n (o1.pot a z).1) e) fun a u n e z => z.elim n (ne_of_none e nD), fun a h e => h (k2.free o1 e)⟩
  by_cases hlt : i < ds.length
  · obtain ⟨hg1, hy⟩ := it.go i (plus X D) H' fD (hZ H' k2) hlt
    refine .inr ⟨hg1, fun H2 => i + 1 ≤ ds.length ∧ ∃ acc vs', H2 D = some (.lst vs') ∧ Ats (cut (plus X D) H2) vs' acc ∧ Kp π H1 H2 ∧ I (i + 1) acc, fun H2 z => ⟨ds.length - (i + 1), by omega, rfl, z⟩, fun x H'' y => ?_⟩
    obtain ⟨k3, d, hd, ad⟩ := hy x H'' y oD
    have o3 := oD.keep k3
    have hD3 := k3.keep D _ npD hD
    have ha3 := ha.mono (oD.mo k3)
    have ev' : Ev π (plus X D) H'' (L2.wipe σ vs) (wipeD δ vs) := by
      have z := e1.wipe vs
      exact ⟨z.len, fun j s o h1 h2 => (z.at_ j s o h1 h2).part o1 (k2.trans k3) nD, z.nd⟩
    have main := hg x _ _ _ (turn i d acc hd hI (plus X D) H'' (L2.wipe σ vs) x (fun σ2 H2 => tt σ2 H2 fun b H3 =>
      if b = true then te σ2 H3 fun y H4 => ∃ acc, H4 D = some (.lst acc) ∧ acc.length < sizeLine ∧ (i + 1 ≤ ds.length ∧ ∃ acc2 vs', (L2.upd H4 D (.lst (acc ++ [y]))) D = some (.lst vs') ∧ Ats (cut (plus X D) (L2.upd H4 D (.lst (acc ++ [y])))) vs' acc2 ∧ Kp π H1 (L2.upd H4 D (.lst (acc ++ [y]))) ∧ I (i + 1) acc2)
      else i + 1 ≤ ds.length ∧ ∃ acc vs', H3 D = some (.lst vs') ∧ Ats (cut (plus X D) H3) vs' acc ∧ Kp π H1 H3 ∧ I (i + 1) acc) o3 ev' ad fun σ3 δ3 ev3 s3 w3 => ?_)
    · rw [wipe_idem] at main
      exact main
    · refine w3 (plus X D) H'' σ3 _ o3 ev3 fun b H3 k4 w4 => ?_
      have o4 := o3.keep k4
      have hD4 := k4.keep D _ npD hD3
      have ha4 := ha3.mono (o3.mo k4)
      have k24 := (k2.trans k3).trans k4
      dsimp only at w4
      split at w4
      · rw [if_pos ‹_›]
        refine w4 (plus X D) H3 σ3 _ o4 (ev3.keep o3 k4) fun y r H4 k5 a w5 => ?_
        obtain ⟨z, hf, hz, hI2⟩ := w5
        have az := a.fz o4 hf
        have hD5 := k5.keep D _ npD hD4
        have ha5 := ha4.mono (o4.mo k5)
        have mo5 : Mo (cut (plus X D) H4) (cut (plus X D) (L2.upd H4 D (.lst (vs' ++ [y])))) := cut_keep (fun a u n e => by rw [upd_ne (fun z => n (.inr z))]; exact e) fun _ _ n _ => n
        refine ⟨vs', hD5, ?_, hlt, acc ++ [z], vs' ++ [y], upd_same, (ha5.mono mo5).snoc (az.mono mo5), ⟨fun a u n e => ?_, fun q e => ?_⟩, hI2⟩
        · rw [ha5.length]; exact Nat.lt_of_lt_of_le hz (by decide)
        · rw [upd_ne (ne_of_none e nD)]
          exact (k24.trans k5).keep a u n e
        · exact (k5.pot q e).upd (fun z => npD (z ▸ e)) (by rw [hD5]; exact nco_lst)
      · rw [if_neg ‹_›]
        exact ⟨hlt, acc, vs', hD4, ha4, k24, w4⟩
  · have e : i = ds.length := by omega
    refine .inl ⟨it.stop i (plus X D) H' fD (hZ H' k2) (by omega), ?_⟩
    exact h (.ref D) (.new (.lst acc)) H' (k1.trans k2) ⟨D, rfl, k1.free o nD, vs', hD, ha⟩ (fin acc (e ▸ hI))
theorem w_lc (hg : GN g vs) (q : WpI π wi δ fun ds => LcK π g tt te vs k δ ds) : Wp π (tLc wi g tt te vs) δ k := fun X H σ Q o e h => by
  refine q X H σ _ o e fun J H1 ds k1 it w => ?_
  exact lc_at hg o (e.keep o k1) k1 it (fun _ _ => trivial) w h
end
end Dt
namespace Dt
open PySem PySem.Spec PyProof.Rows L2 Ly
section
variable {π : Po} {δ : List Rv} {k : Rv → Prop} {E : XK} {P : Prop}
theorem out_d {x : D} (q : k (.d x)) : Fre (.d x) ∧ Rv.d x ≠ .un ∧ k (.d x) := ⟨fun _ z => z, fun z => (by cases z), q⟩
theorem out_new {x : D} (q : k (.new x)) : Fre (.new x) ∧ Rv.new x ≠ .un ∧ k (.new x) := ⟨fun _ z => z, fun z => (by cases z), q⟩
theorem ex_bl {b : Bool} {P : Bool → Prop} (q : P b) : ∃ c, Rv.d (.bl b) = .d (.bl c) ∧ P c := ⟨b, rfl, q⟩
theorem ite_t {A B : Prop} (h : A) : if true = true then A else B := by rw [if_pos rfl]; exact h
theorem ite_f {A B : Prop} (h : B) : if false = true then A else B := by rw [if_neg Bool.false_ne_true]; exact h
theorem ite_d {p A B : Prop} [Decidable p] (h1 : p → A) (h2 : ¬ p → B) : if decide p = true then A else B := by
  by_cases h : p
  · rw [decide_eq_true h]; exact ite_t (h1 h)
  · rw [decide_eq_false h]; exact ite_f (h2 h)
theorem wt_yes {k : Bool → Prop} (q : k true) : WpT π tYes δ k := fun X H σ Q o e h => h true H o.kp q
theorem wcb_draw {n : Int} (hn : 0 < n) (hz : Sz 4000 n) (q : ∀ d, 0 ≤ d → d < n → k (.d (.int d))) : WCb π (fun vs H Q => spDraw vs H Q E) [.pot, .d (.int n)] k := fun X H0 H xs Q o0 o k0 a h => by
  match xs, a with
  | [x, y], ⟨a1, a2, _⟩ =>
    obtain ⟨p, hp, rfl⟩ := a1
    cases a2
    exact i_draw ((o.pot p (.inl hp)).2.1 hp) hn hz fun d H' d0 d1 dr => h (.int d) (.d (.int d)) H' (Kp.of_dr o hp dr) (At.int d) (q d d0 d1)
/-- one name of a comprehension -/
theorem w_lc1 {wi : TI} {te : TE} {vs : List Nat} {j : Nat} (hj : j ∈ vs) (P : Nat → D → D → Prop) (q : WpI π wi δ fun ds => ds.length ≤ 4000 ∧ (∀ (i : Nat) (d : D), ds[i]? = some d → Wp π te ((wipeD δ vs).set j (.d d)) fun r => ∃ x, r.fz = some x ∧ P i d x) ∧
      ∀ xs, xs.length = ds.length → (∀ (i : Nat) (d x : D), ds[i]? = some d → xs[i]? = some x → P i d x) → k (.new (.lst xs))) : Wp π (tLc wi (gName j) tYes te vs) δ k := by
  refine w_lc (gn_name hj) ?_
  intro X H σ R o e h
  refine q X H σ R o e fun J H' ds k1 it w => h J H' ds k1 it ?_
  obtain ⟨hl, turn, fin⟩ := w
  refine ⟨fun i acc => acc.length = i ∧ ∀ (m : Nat) (d x : D), ds[m]? = some d → acc[m]? = some x → P m d x, ⟨rfl, fun m d x _ h => by simp at h⟩, fun i d acc hd hI => ?_, fun acc hI => fin acc hI.1 hI.2⟩
  refine we_name (wt_yes (ite_t ((turn i d hd).imp fun r hr => ?_)))
  obtain ⟨x, hf, px⟩ := hr
  have hlt := (List.getElem?_eq_some_iff.mp hd).1
  refine ⟨x, hf, by omega, by rw [List.length_append, hI.1]; rfl, fun m d' x' h1 h2 => ?_⟩
  rcases Nat.lt_or_ge m acc.length with hm | hm
  · rw [List.getElem?_append_left hm] at h2
    exact hI.2 m d' x' h1 h2
  · rw [List.getElem?_append_right hm] at h2
    have hm2 : m - acc.length < 1 := by simpa using (List.getElem?_eq_some_iff.mp h2).1
    have : m = i := by omega
    subst this
    rw [hI.1, Nat.sub_self] at h2
    cases h2
    rw [hd] at h1
    cases h1
    exact px
/-- over a list: told item by item -/
theorem w_lcM {wi : TI} {te : TE} {vs : List Nat} {j : Nat} (hj : j ∈ vs) (f : D → D) (q : WpI π wi δ fun ds => ds.length ≤ 4000 ∧ (∀ d, d ∈ ds → Wp π te ((wipeD δ vs).set j (.d d)) fun r => r.fz = some (f d)) ∧ k (.new (.lst (ds.map f)))) : Wp π (tLc wi (gName j) tYes te vs) δ k := by
  refine w_lc1 hj (fun _ d x => x = f d) ?_
  intro X H σ R o e h
  refine q X H σ R o e fun J H' ds k1 it w => h J H' ds k1 it ?_
  obtain ⟨hl, turn, fin⟩ := w
  refine ⟨hl, fun i d hd => (turn d (List.mem_of_getElem? hd)).imp fun r hr => ⟨f d, hr, rfl⟩, fun xs hx hp => ?_⟩
  have e : xs = ds.map f := by
    apply List.ext_getElem?
    intro i
    rw [List.getElem?_map]
    rcases Nat.lt_or_ge i ds.length with hl | hl
    · rw [List.getElem?_eq_getElem hl]
      have hl2 : i < xs.length := by omega
      rw [List.getElem?_eq_getElem hl2, hp i _ _ (List.getElem?_eq_getElem hl) (List.getElem?_eq_getElem hl2)]
      rfl
    · rw [List.getElem?_eq_none hl, List.getElem?_eq_none (by omega)]
      rfl
  rw [e]
  exact fin
end
end Dt
namespace L2
open PySem PySem.Spec PyProof.Rows
end L2
namespace Dt
open PySem PySem.Spec PyProof.Rows L2 Ly
section
variable {κ : Type} [DecidableEq κ]
def valD (kd : List (κ × D)) (k : κ) : Option D := (kd.find? fun p => decide (p.1 = k)).map (·.2)
theorem val_at {H : Hp} {k : κ} : ∀ {kv : List (κ × V)} {kd : List (κ × D)}, kv.map (·.1) = kd.map (·.1) → Ats H (kv.map (·.2)) (kd.map (·.2)) → (∀ d, valD kd k = some d → ∃ v, valV kv k = some v ∧ At H v d) ∧ (valD kd k = none → valV kv k = none)
  | [], [], _, _ => ⟨fun d h => (by cases h), fun _ => rfl⟩
  | [], _ :: _, h, _ => by cases h
  | _ :: _, [], h, _ => by cases h
  | (a, v) :: kv, (b, c) :: kd, h, t => by
    simp only [List.map_cons, List.cons.injEq] at h
    obtain ⟨e, h⟩ := h
    have e : a = b := e
    subst e
    cases t with
    | cons a1 t =>
      by_cases hk : a = k
      · have e1 : valD ((a, c) :: kd) k = some c := by simp [valD, List.find?_cons, hk]
        rw [e1, valV_pos (p := (a, v)) hk]
        exact ⟨fun d h => ⟨v, rfl, by cases h; exact a1⟩, fun h => by cases h⟩
      · have e1 : valD ((a, c) :: kd) k = valD kd k := by simp [valD, List.find?_cons, hk]
        rw [e1, valV_neg (p := (a, v)) hk]
        exact val_at h t
end
def keyD : D → Option Key
  | .int i => some (.inl i)
  | .str s => some (.inr s)
  | _ => none
def dKey : Key → D
  | .inl i => .int i
  | .inr s => .str s
theorem at_key {H : Hp} : ∀ k : Key, At H (kV k) (dKey k)
  | .inl i => .int i
  | .inr s => .str s
theorem keyD_at {H : Hp} {v : V} {d : D} {k : Key} (a : At H v d) (h : keyD d = some k) : v = kV k := by
  cases a <;> first | (cases h; rfl) | (cases h; done)
section
variable {π : Po} {δ : List Rv} {k : Rv → Prop} {ta tb te td ty : TE} {t : TA} {K : PySem.W.Frag}
/-- d[y] -/
def Get (r s : Rv) (k : Rv → Prop) : Prop := ∃ kd x y d, r.kd = some kd ∧ s = .d x ∧ keyD x = some y ∧ valD kd y = some d ∧ k (.d d)
theorem w_dget (q : Wp π td δ fun r => Wp π ty δ fun s => Get r s k) : Wp π (tDGet td ty) δ k := fun X H σ Q o e h => by
  refine q X H σ _ o e fun x r H1 k1 a w => ?_
  have o1 := o.keep k1
  refine w X H1 σ _ o1 (e.keep o k1) fun y s H2 k2 a2 w2 => ?_
  obtain ⟨kd, x2, y2, d, hr, rfl, hy, hd, kk⟩ := w2
  obtain ⟨p, kv, rfl, hp, e1, t1⟩ := (a.keep o1 k1 o k2).kd hr
  obtain ⟨v, hv, av⟩ := (val_at e1 t1).1 d hd
  exact ⟨p, v, rfl, .inl ⟨kv, y2, hp, keyD_at a2 hy, hv.symm⟩, h v (.d d) H2 (k1.trans k2) av kk⟩
/-- y in d -/
theorem w_din (q : Wp π ty δ fun s => Wp π td δ fun r => ∃ kd x y, r.kd = some kd ∧ s = .d x ∧ keyD x = some y ∧ k (.d (.bl (valD kd y).isSome))) : Wp π (tDIn ty td) δ k := fun X H σ Q o e h => by
  refine q X H σ _ o e fun x r H1 k1 a w => ?_
  have o1 := o.keep k1
  refine w X H1 σ _ o1 (e.keep o k1) fun y s H2 k2 a2 w2 => ?_
  obtain ⟨kd, x2, y2, hr, rfl, hy, kk⟩ := w2
  obtain ⟨p, kv, rfl, hp, e1, t1⟩ := a2.kd hr
  have ey := keyD_at (a.keep o1 k1 o k2) hy
  obtain ⟨z1, z2⟩ := val_at (k := y2) e1 t1
  refine ⟨p, valV kv y2, rfl, .inl ⟨kv, y2, hp, ey, rfl⟩, ?_⟩
  have eb : (valV kv y2).isSome = (valD kd y2).isSome := by
    cases hd : valD kd y2 with
    | none => rw [z2 hd]; rfl
    | some d => obtain ⟨v, hv, _⟩ := z1 d hd; rw [hv]; rfl
  rw [eb]
  exact h _ (.d (.bl _)) H2 (k1.trans k2) (At.bl _) kk
theorem w_dni (q : Wp π ty δ fun s => Wp π td δ fun r => ∃ kd x y, r.kd = some kd ∧ s = .d x ∧ keyD x = some y ∧ k (.d (.bl (!(valD kd y).isSome)))) : Wp π (tDNotIn ty td) δ k := fun X H σ Q o e h => by
  refine q X H σ _ o e fun x r H1 k1 a w => ?_
  have o1 := o.keep k1
  refine w X H1 σ _ o1 (e.keep o k1) fun y s H2 k2 a2 w2 => ?_
  obtain ⟨kd, x2, y2, hr, rfl, hy, kk⟩ := w2
  obtain ⟨p, kv, rfl, hp, e1, t1⟩ := a2.kd hr
  have ey := keyD_at (a.keep o1 k1 o k2) hy
  obtain ⟨z1, z2⟩ := val_at (k := y2) e1 t1
  refine ⟨p, valV kv y2, rfl, .inl ⟨kv, y2, hp, ey, rfl⟩, ?_⟩
  have eb : (valV kv y2).isSome = (valD kd y2).isSome := by
    cases hd : valD kd y2 with
    | none => rw [z2 hd]; rfl
    | some d => obtain ⟨v, hv, _⟩ := z1 d hd; rw [hv]; rfl
  rw [eb]
  exact h _ (.d (.bl _)) H2 (k1.trans k2) (At.bl _) kk
/-- {} -/
theorem w_dnewK (q : k (.new (.dct []))) : Wp π tDNewK δ k := fun X H σ Q o e h p hp => by
  exact h (.ref p) (.new (.dct [])) _ (o.kp.add o hp) (new_at o hp ⟨[], upd_same, rfl, .nil⟩ o.kp o) q
end
end Dt
namespace Dt
open PySem PySem.Spec PyProof.Rows L2 Ly
end Dt
namespace Ly
open PySem PySem.Spec PyProof.Rows L2
section
variable {σ : L2.St} {H H' : Hp} {Q : VK} {K : PySem.W.Frag} {v x y : V} {ta tb te : TE} {t u tk : TA} {D : Ends} {C a : Addr} {f : Str} {sp : Sp} {fs : List (Str × V)} {b : Bool}
theorem ExAt.same (s : Same H H') (e : ExAt H a C fs) : ExAt H' a C fs := by
  rcases e with ⟨z, e⟩ | ⟨d, e1, e2⟩
  · exact .inl ⟨z, s _ _ e⟩
  · exact .inr ⟨d, s _ _ e1, s _ _ e2⟩
end
def rTupOf (K : PySem.W.Frag) : List V → Hp → VK → Prop := fun xs H Q => ∃ p ys, xs = [.ref p] ∧ ((SqL K H p ys ∧ ∀ l, H l = none → Q (.ref l) (upd H l (.tup ys))) ∨ (SqT K H p ys ∧ Q (.ref p) H))
def rInSg : R2 := fun x y H Q => ∃ (c : Nat) (z : Str), x = .str ⟨#[c]⟩ ∧ y = .str z ∧ Q (.bl (decide (c ∈ z.cps.toList))) H
theorem op_inSg {X : Cx} : OpR X (compareOp .In) rInSg := op_in_sign
end Ly
namespace Dt
open PySem PySem.Spec PyProof.Rows L2 Ly
theorem ats_strs {H : Hp} : ∀ {ss : List Str} {vs : List V}, Ats H vs (ss.map D.str) → vs = ss.map V.str
  | [], _, a => by cases a; rfl
  | s :: ss, _, a => by cases a with | cons a t => cases a; rw [ats_strs t]; rfl
theorem ats_bls {H : Hp} : ∀ {ss : List Bool} {vs : List V}, Ats H vs (ss.map D.bl) → vs = ss.map V.bl
  | [], _, a => by cases a; rfl
  | s :: ss, _, a => by cases a with | cons a t => cases a; rw [ats_bls t]; rfl
theorem strs_at {H : Hp} : ∀ ss : List Str, Ats H (ss.map V.str) (ss.map D.str)
  | [] => .nil
  | s :: ss => .cons (.str s) (strs_at ss)
theorem keys_at {H : Hp} : ∀ ks : List Key, Ats H (ks.map kV) (ks.map dKey)
  | [] => .nil
  | k :: ks => .cons (at_key k) (keys_at ks)
theorem inV_strs {s : Str} : ∀ ss : List Str, inV (V.str s) (ss.map V.str) = decide (s ∈ ss)
  | [] => rfl
  | t :: ss => by
    have e : eqV (V.str t) (V.str s) = decide (t = s) := by
      by_cases h : t = s
      · subst h; rw [decide_eq_true rfl]; simp [eqV]
      · rw [decide_eq_false h]; simp [eqV, h]
    show (eqV (V.str t) (V.str s) || inV (V.str s) (ss.map V.str)) = _
    rw [inV_strs ss, e, Bool.eq_iff_iff, Bool.or_eq_true, decide_eq_true_eq, decide_eq_true_eq, decide_eq_true_eq, List.mem_cons]
    exact ⟨fun h => h.elim (fun h => .inl h.symm) .inr, fun h => h.elim (fun h => .inl h.symm) .inr⟩
section
variable {π : Po} {δ : List Rv} {k : Rv → Prop} {ta tb te td ty tv : TE} {t : TA} {K : PySem.W.Frag}
theorem wcb_all {a : Rv} {bs : List Bool} (hl : a.li = some (bs.map D.bl)) (q : k (.d (.bl (bs.all id)))) : WCb π (rAll K) [a] k := fun X H0 H xs Q o0 o k0 ra h => by
  match xs, ra with
  | [x], ⟨ra, _⟩ =>
    obtain ⟨p, vs, rfl, e, t⟩ := ra.li hl
    have z := ats_bls t
    subst z
    exact ⟨p, bs, rfl, SqL.of e, h _ (.d (.bl (bs.all id))) H o.kp (At.bl _) q⟩
/-- a new list, as a result -/
theorem new_lst {X : Xs} {H0 H : Hp} {Q : VK} {vs : List V} {ds : List D} (o : Ok π X H) (k0 : Kp π H0 H) (o0 : Ok π X H0) (a : Ats (cut X H) vs ds) (h : ∀ v z H', Kp π H H' → RAt π X H0 H' z v → k z → Q v H') (q : k (.new (.lst ds))) (p : Addr) (hp : H p = none) : Q (.ref p) (L2.upd H p (.lst vs)) :=
  h (.ref p) (.new (.lst ds)) _ (o.kp.add o hp) (new_at o hp ⟨vs, upd_same, a.mono (up_mo hp)⟩ k0 o0) q
theorem new_tup {X : Xs} {H0 H : Hp} {Q : VK} {vs : List V} {ds : List D} (o : Ok π X H) (a : Ats (cut X H) vs ds) (h : ∀ v z H', Kp π H H' → RAt π X H0 H' z v → k z → Q v H') (q : k (.d (.tup ds))) (p : Addr) (hp : H p = none) : Q (.ref p) (L2.upd H p (.tup vs)) := by
  refine h (.ref p) (.d (.tup ds)) _ (o.kp.add o hp) ?_ q
  exact At.tup (cut_of (fun z => o.dom p z hp) upd_same) (a.mono (up_mo' hp))
theorem wcb_listOf {a : Rv} {ds : List D} (hl : a.li = some ds) (q : k (.new (.lst ds))) : WCb π (Ly.rListOf K) [a] k := fun X H0 H xs Q o0 o k0 ra h => by
  match xs, ra with
  | [x], ⟨ra, _⟩ =>
    obtain ⟨p, vs, rfl, e, t⟩ := ra.li hl
    exact ⟨p, vs, rfl, .inl (SqL.of e), fun l hl => new_lst o k0 o0 t h q l hl⟩
theorem wcb_listOfT {ds : List D} (q : k (.new (.lst ds))) : WCb π (Ly.rListOf K) [.d (.tup ds)] k := fun X H0 H xs Q o0 o k0 ra h => by
  match xs, ra with
  | [x], ⟨ra, _⟩ =>
    cases ra with
    | tup e t => exact ⟨_, _, rfl, .inr (SqT.of (of_cut e).2), fun l hl => new_lst o k0 o0 t h q l hl⟩
theorem wcb_tupOf {a : Rv} {ds : List D} (hl : a.li = some ds) (q : k (.d (.tup ds))) : WCb π (rTupOf K) [a] k := fun X H0 H xs Q o0 o k0 ra h => by
  match xs, ra with
  | [x], ⟨ra, _⟩ =>
    obtain ⟨p, vs, rfl, e, t⟩ := ra.li hl
    exact ⟨p, vs, rfl, .inl ⟨SqL.of e, fun l hl => new_tup o t h q l hl⟩⟩
theorem wcb_gcd {i j : Int} (q : k (.d (.int (Int.gcd i j : Nat)))) : WCb π rGcd [.d (.int i), .d (.int j)] k := fun X H0 H xs Q o0 o k0 ra h => by
  match xs, ra with
  | [x, y], ⟨ra, rb, _⟩ =>
    cases ra; cases rb
    exact ⟨i, j, rfl, h _ (.d (.int (Int.gcd i j : Nat))) H o.kp (At.int _) q⟩
theorem wcb_abs {i : Int} (q : k (.d (.int (if i < 0 then -i else i)))) : WCb π Ly.rAbs [.d (.int i)] k := fun X H0 H xs Q o0 o k0 ra h => by
  match xs, ra with
  | [x], ⟨ra, _⟩ => cases ra; exact i_abs (h _ (.d (.int _)) H o.kp (At.int _) q)
theorem wcb_max2 {i j : Int} (q : k (.d (.int (if j > i then j else i)))) : WCb π Ly.rMax2 [.d (.int i), .d (.int j)] k := fun X H0 H xs Q o0 o k0 ra h => by
  match xs, ra with
  | [x, y], ⟨ra, rb, _⟩ => cases ra; cases rb; exact i_max2 (h _ (.d (.int _)) H o.kp (At.int _) q)
theorem wcb_min2 {i j : Int} (q : k (.d (.int (if j < i then j else i)))) : WCb π Ly.rMin2 [.d (.int i), .d (.int j)] k := fun X H0 H xs Q o0 o k0 ra h => by
  match xs, ra with
  | [x, y], ⟨ra, rb, _⟩ => cases ra; cases rb; exact i_min2 (h _ (.d (.int _)) H o.kp (At.int _) q)
theorem wcb_int {i : Int} (q : k (.d (.int i))) : WCb π rInt1 [.d (.int i)] k := fun X H0 H xs Q o0 o k0 ra h => by
  match xs, ra with
  | [x], ⟨ra, _⟩ => cases ra; exact i_int (h _ (.d (.int i)) H o.kp (At.int _) q)
def tyN : D → String
  | .int _ => "int"
  | .bl _ => "bool"
  | .non => "NoneType"
  | .str _ => "str"
  | .lst _ => "list"
  | .tup _ => "tuple"
  | .dct _ => "dict"
  | .dcT _ => "dict"
  | .obj _ _ => "object"
def isObj : D → Bool
  | .obj _ _ => true
  | .dcT _ => true
  | _ => false
theorem at_ty {X : Xs} {H : Hp} {v : V} {x : D} (a : At (cut X H) v x) (n : isObj x = false) : TyX K H v (.type (tyN x)) := by
  cases a with
  | int i => exact .base (.int i)
  | bl b => exact .base (.bl b)
  | non => exact .base .non
  | str s => exact .base (.str s)
  | lst e t => exact .base (.lst (of_cut e).2)
  | tup e t => exact .base (.tup (of_cut e).2)
  | dct e e2 t =>
    rcases e with e | ⟨od, e⟩
    · exact .base (.dK (of_cut e).2)
    · exact .fDict (of_cut e).2
  | dcT e e2 t => cases n
  | obj e e2 t => cases n
theorem wcb_isi {x : D} {n : String} {b : Bool} (ho : isObj x = false) (hb : kitB (tyN x) n = some b) (q : k (.d (.bl b))) : WCb π (rIsi K) [.d x, .raw (.ty n)] k := fun X H0 H xs Q o0 o k0 ra h => by
  match xs, ra with
  | [v, c], ⟨ra, rc, _⟩ =>
    have rc : c = .ty n := rc
    subst rc
    exact i_isi (at_ty ra ho) hb (h _ (.d (.bl b)) H o.kp (At.bl _) q)
/-- of an own class, a value of a built-in kind -/
theorem wcb_isiC {x : D} {C : Addr} (ho : isObj x = false) (hb : PySem.W.kitOne K (.type (tyN x)) (.ref C) = some false) (q : k (.d (.bl false))) : WCb π (rIsi K) [.d x, .raw (.ref C)] k := fun X H0 H xs Q o0 o k0 ra h => by
  match xs, ra with
  | [v, c], ⟨ra, rc, _⟩ =>
    have rc : c = .ref C := rc
    subst rc
    exact i_isiO (at_ty ra ho) hb (h _ (.d (.bl false)) H o.kp (At.bl _) q)
/-- .. an object of the class -/
theorem wcb_isiO {mg : Str → Option Value} {n : Str} {C : Addr} {fd : List (Str × D)} (c : OwnC K mg n C) (q : k (.d (.bl true))) : WCb π (rIsi K) [.d (.obj C fd), .raw (.ref C)] k := fun X H0 H xs Q o0 o k0 ra h => by
  match xs, ra with
  | [v, cc], ⟨ra, rc, _⟩ =>
    have rc : cc = .ref C := rc
    subst rc
    cases ra with
    | obj e e2 t => exact i_isiO (b := true) (.base (.ins (of_cut e).2 c.cls c.cl (by with_unfolding_all rfl) (by with_unfolding_all rfl) c.mo)) c.kO (h _ (.d (.bl true)) H o.kp (At.bl _) q)
theorem wop_eqI {i j : Int} (q : k (.d (.bl (decide (i = j))))) : WOp π (rEqU K) (.d (.int i)) (.d (.int j)) k := fun X H0 H x y Q o0 o k0 ra rb h => by
  cases ra; cases rb
  refine i_eq_s rfl ?_
  rw [show decide (V.int i = V.int j) = decide (i = j) by simp]
  exact h _ (.d (.bl _)) H o.kp (At.bl _) q
theorem wop_neI {i j : Int} (q : k (.d (.bl (!decide (i = j))))) : WOp π (rNeU K) (.d (.int i)) (.d (.int j)) k := fun X H0 H x y Q o0 o k0 ra rb h => by
  cases ra; cases rb
  refine i_ne_s rfl ?_
  rw [show decide (V.int i = V.int j) = decide (i = j) by simp]
  exact h _ (.d (.bl _)) H o.kp (At.bl _) q
theorem wop_eqS {i j : Str} (q : k (.d (.bl (decide (i = j))))) : WOp π (rEqU K) (.d (.str i)) (.d (.str j)) k := fun X H0 H x y Q o0 o k0 ra rb h => by
  cases ra; cases rb
  refine i_eq_s rfl ?_
  rw [show decide (V.str i = V.str j) = decide (i = j) by simp]
  exact h _ (.d (.bl _)) H o.kp (At.bl _) q
theorem wop_neS {i j : Str} (q : k (.d (.bl (!decide (i = j))))) : WOp π (rNeU K) (.d (.str i)) (.d (.str j)) k := fun X H0 H x y Q o0 o k0 ra rb h => by
  cases ra; cases rb
  refine i_ne_s rfl ?_
  rw [show decide (V.str i = V.str j) = decide (i = j) by simp]
  exact h _ (.d (.bl _)) H o.kp (At.bl _) q
def isNon : D → Bool
  | .non => true
  | _ => false
theorem wop_isN {x : D} (q : k (.d (.bl (isNon x)))) : WOp π (fun x y H Q => y = .non ∧ Q (.bl (decide (x = .non))) H) (.d x) (.d .non) k := fun X H0 H v y Q o0 o k0 ra rb h => by
  cases rb
  refine ⟨rfl, ?_⟩
  have e : decide (v = V.non) = isNon x := by cases ra <;> first | rfl | (exact decide_eq_false fun z => by cases z)
  rw [e]
  exact h _ (.d (.bl _)) H o.kp (At.bl _) q
theorem wop_notN {x : D} (q : k (.d (.bl (!isNon x)))) : WOp π (fun x y H Q => y = .non ∧ Q (.bl (!decide (x = .non))) H) (.d x) (.d .non) k := fun X H0 H v y Q o0 o k0 ra rb h => by
  cases rb
  refine ⟨rfl, ?_⟩
  have e : decide (v = V.non) = isNon x := by cases ra <;> first | rfl | (exact decide_eq_false fun z => by cases z)
  rw [e]
  exact h _ (.d (.bl _)) H o.kp (At.bl _) q
theorem all_flat : ∀ ss : List Str, (ss.map V.str).all flatV = true
  | [] => rfl
  | _ :: ss => all_flat ss
theorem wop_inS {s : Str} {ss : List Str} {b : Rv} (hl : b.li = some (ss.map D.str)) (q : k (.d (.bl (decide (s ∈ ss))))) : WOp π (rIn K false) (.d (.str s)) b k := fun X H0 H x y Q o0 o k0 ra rb h => by
  cases ra
  obtain ⟨p, vs, rfl, e, t⟩ := rb.li hl
  have z := ats_strs t
  subst z
  refine ⟨p, _, rfl, .inl (SqL.of e), rfl, all_flat ss, ?_⟩
  rw [if_neg Bool.false_ne_true, inV_strs]
  exact h _ (.d (.bl _)) H o.kp (At.bl _) q
theorem wop_niS {s : Str} {ss : List Str} {b : Rv} (hl : b.li = some (ss.map D.str)) (q : k (.d (.bl (!decide (s ∈ ss))))) : WOp π (rIn K true) (.d (.str s)) b k := fun X H0 H x y Q o0 o k0 ra rb h => by
  cases ra
  obtain ⟨p, vs, rfl, e, t⟩ := rb.li hl
  have z := ats_strs t
  subst z
  refine ⟨p, _, rfl, .inl (SqL.of e), rfl, all_flat ss, ?_⟩
  rw [if_pos rfl, inV_strs]
  exact h _ (.d (.bl _)) H o.kp (At.bl _) q
theorem wop_inST {s : Str} {ss : List Str} (q : k (.d (.bl (decide (s ∈ ss))))) : WOp π (rIn K false) (.d (.str s)) (.d (.tup (ss.map D.str))) k := fun X H0 H x y Q o0 o k0 ra rb h => by
  cases ra
  cases rb with
  | tup e t =>
    have z := ats_strs t
    subst z
    refine ⟨_, _, rfl, .inr (SqT.of (of_cut e).2), rfl, all_flat ss, ?_⟩
    rw [if_neg Bool.false_ne_true, inV_strs]
    exact h _ (.d (.bl _)) H o.kp (At.bl _) q
theorem wop_cat {a b : Rv} {xs ys : List D} (h1 : a.li = some xs) (h2 : b.li = some ys) (hz : xs.length + ys.length ≤ 4000) (q : k (.new (.lst (xs ++ ys)))) : WOp π rAddU a b k := fun X H0 H x y Q o0 o k0 ra rb h => by
  obtain ⟨p, vs, rfl, e, t⟩ := ra.li h1
  obtain ⟨p', ws, rfl, e', t'⟩ := rb.li h2
  exact .inr (.inr ⟨p, p', vs, ws, rfl, rfl, e, e', by rw [t.length, t'.length]; exact le_line hz, fun l hl => new_lst o k0 o0 (t.append t') h q l hl⟩)
theorem w_join {ss : List Str} {s : Str} (q : Wp π ta δ fun r => r = .d (.str s) ∧ Wp π te δ fun b => ∃ ss, b.li = some (ss.map D.str) ∧ (ss.map (·.length)).sum + ss.length * s.length ≤ 16777216 ∧ k (.d (.str (Txt.join s ss)))) : Wp π (tM1 (rJoin K) ta te) δ k := fun X H σ Q o e h => by
  refine q X H σ _ o e fun v r H1 k1 a w => ?_
  obtain ⟨rfl, w⟩ := w
  cases a
  refine ⟨⟨_, rfl⟩, ?_⟩
  refine w X H1 σ _ (o.keep k1) (e.keep o k1) fun v2 b H2 k2 a2 w2 => ?_
  obtain ⟨ss, hl, hz, kk⟩ := w2
  obtain ⟨p, vs, rfl, e2, t⟩ := a2.li hl
  have z := ats_strs t
  subst z
  exact i_join e2 hz (h _ (.d (.str _)) H2 (k1.trans k2) (At.str _) kk)
end
section
variable {π : Po} {δ : List Rv} {k : Ke} {te ty tv ta : TE} {t : TA} {K : PySem.W.Frag} {n : Nat} {p : Addr}
theorem Iv.mut {H0 : Hp} {X0 : Xs} {L : Lk} {X : Xs} {H : Hp} {o : HO} (iv : Iv π H0 X0 L X H) (xp : X p) (np : ¬ Mu π p) (h0 : H0 p = none) (hc : Nco (H p)) : Iv π H0 X0 L X (L2.upd H p o) := by
  have hL : L p = none := by
    cases e : L p with
    | none => rfl
    | some x => exact absurd xp (iv.lk p x e).2
  refine ⟨⟨fun q x => ?_, fun q e => ?_⟩, iv.ok0, ⟨fun a u m e => ?_, fun q e => ?_⟩, iv.sub, fun a x e => ?_, fun a h => ?_⟩
  · by_cases hq : q = p
    · rw [hq, upd_same]; exact fun z => by cases z
    · rw [upd_ne hq]; exact iv.ok.dom q x
  · obtain ⟨x, f⟩ := iv.ok.pot q e
    exact ⟨x, f.upd (fun z => np (z ▸ e)) hc⟩
  · have z := iv.kp.keep a u m e
    have ha : a ≠ p := ne_of_none e h0
    unfold undo at z ⊢
    cases hl : L a with
    | none => rw [hl] at z; simp only; rw [upd_ne ha]; exact z
    | some w => rw [hl] at z; exact z
  · have e3 : undo L (L2.upd H p o) = L2.upd (undo L H) p o := by
      funext a
      by_cases ha : a = p
      · subst ha
        unfold undo
        rw [hL]
        simp only
        rw [upd_same, upd_same]
      · rw [upd_ne ha]
        unfold undo
        cases hl : L a with
        | none => simp only; exact upd_ne ha
        | some w => rfl
    rw [e3]
    refine (iv.kp.pot q e).upd (fun z => np (z ▸ e)) ?_
    have : undo L H p = H p := by unfold undo; rw [hL]
    rw [this]
    exact hc
  · obtain ⟨⟨h1, hn⟩, h2⟩ := iv.lk a x e
    exact ⟨⟨by rw [upd_ne (fun z => h2 (by rw [z]; exact xp))]; exact h1, hn⟩, h2⟩
  · by_cases ha : a = p
    · rw [ha, upd_same]; exact fun z => by cases z
    · rw [upd_ne ha]; exact iv.old a h
theorem mut_mo {X : Xs} {H : Hp} {o : HO} (xp : X p) : Mo (cut X H) (cut X (L2.upd H p o)) := cut_keep (fun a u nx e => by rw [upd_ne (fun z => nx (by rw [z]; exact xp))]; exact e) fun _ _ n _ => n
theorem Ev.mut {X : Xs} {H : Hp} {σ : L2.St} {o : HO} {x : D} (ev : Ev π X H σ δ) (h : δ[n]? = some (.own p x)) (xp : X p) (x' : D) (np : ¬ Mu π p) (ha : AtO X (L2.upd H p o) p x') : Ev π X (L2.upd H p o) σ (δ.set n (.own p x')) := by
  have m := mut_mo (H := H) (o := o) xp
  refine ⟨by rw [List.length_set]; exact ev.len, fun j s ov h1 h2 => ?_, fun j l s t q h1 h2 a1 a2 => ?_⟩
  · rcases set_get h1 with ⟨rfl, rfl⟩ | ⟨nj, g1⟩
    · obtain ⟨v, e1, e2, _⟩ := ev.get h (fun z => by cases z)
      rw [h2] at e1
      cases e1
      exact ⟨v, rfl, e2, xp, np, ha⟩
    · have y := ev.at_ j s ov g1 h2
      cases s with
      | un => trivial
      | d w => obtain ⟨v, e, a⟩ := y; exact ⟨v, e, a.mono m⟩
      | own q w =>
        obtain ⟨v, e, e2, xq, nq, t⟩ := y
        have hq : q ≠ p := fun z => nj (ev.nd j n _ _ p g1 h (by rw [z]; rfl) rfl)
        exact ⟨v, e, e2, xq, nq, t.keep (fun o h => by rw [upd_ne hq]; exact h) m⟩
      | new w => obtain ⟨v, e, q, e2, nq, t⟩ := y; exact absurd nq t.some
      | pot => exact y
      | raw w => exact y
      | ex a0 dd fds => obtain ⟨v, e, a⟩ := y; exact ⟨v, e, Exat.mono m a⟩
      | cl i as cs =>
        obtain ⟨v, e, a1, a2, b⟩ := y
        have hq : ∀ q ∈ as, q ≠ p := fun q mq z => nj (ev.nd j n _ _ p g1 h (z ▸ mq) rfl)
        exact ⟨v, e, a1, a2, b.keep (fun q mq o h => by rw [upd_ne (hq q mq)]; exact h) m⟩
      | ncl i cs => obtain ⟨v, e, as, ⟨q, hq, _⟩, n, b⟩ := y; exact absurd (n q (List.mem_of_getElem? hq)) (b.ex (List.mem_of_getElem? hq))
  · rcases set_get h1 with ⟨e1, e2⟩ | ⟨n1, g1⟩
    · rcases set_get h2 with ⟨e3, e4⟩ | ⟨n2, g2⟩
      · exact e1.trans e3.symm
      · rw [e2] at a1
        rw [e1]
        exact ev.nd n l _ t q h g2 a1 a2
    · rcases set_get h2 with ⟨e3, e4⟩ | ⟨n2, g2⟩
      · rw [e4] at a2
        rw [e3]
        exact ev.nd j n s _ q g1 h a1 a2
      · exact ev.nd j l s t q g1 g2 a1 a2
theorem Own0.mut {H0 : Hp} {X0 : Xs} {x x' : D} (ow : Own0 H0 X0 δ) (h : δ[n]? = some (.own p x)) : Own0 H0 X0 (δ.set n (.own p x')) := ow.put fun q e => by cases e; exact ow n _ p h rfl
/-- xs.append(e) -/
theorem ws_append {ds : List D} (h : δ[n]? = some (.own p (.lst ds))) (hz : ds.length < 4000) (q : Wp π te δ fun r => ∃ x, r.fz = some x ∧ k.nx (δ.set n (.own p (.lst (ds ++ [x]))))) : Ws π (tDrop (tBM K "list" rAppend (tVar n) (tCons te tNil))) k δ := fun H0 X0 L X H σ D iv ev ow en => by
  obtain ⟨v, e1, rfl, xp, np, a⟩ := ev.get h (fun z => by cases z)
  obtain ⟨vs, hp, t⟩ := id a
  refine ⟨.ref p, e1, .inl ⟨rfl, _, SqL.of hp⟩, ?_⟩
  refine q X H σ _ iv.ok ev fun v r H1 k1 ra w => ?_
  obtain ⟨x, hf, kn⟩ := w
  have iv1 := iv.keep k1
  have ev1 := ev.keep iv.ok k1
  obtain ⟨_, e1', _, _, _, vs1, hp1, t1⟩ := ev1.get h (fun z => by cases z)
  have ax := ra.fz iv.ok hf
  have m := mut_mo (H := H1) (o := .lst (vs1 ++ [v])) xp
  refine ⟨p, vs1, v, rfl, rfl, hp1, by rw [t1.length]; exact Nat.lt_of_lt_of_le hz (by decide), ?_⟩
  refine en.nx X _ σ _ (iv1.mut xp np (ow n _ p h rfl).1 (by rw [hp1]; exact nco_lst)) (ev1.mut h xp (.lst (ds ++ [x])) np ⟨_, upd_same, (t1.mono m).snoc (ax.mono m)⟩) (ow.mut h) ((iv.ok.fr k1).trans ⟨m, fun a h => ?_⟩) kn
  by_cases ha : a = p
  · rw [ha, upd_same]; exact fun z => by cases z
  · rw [upd_ne ha]; exact h
theorem putF_new {f : Str} {v : V} : ∀ {fs : List (Str × V)}, fs.lookup f = none → putF f v fs = fs ++ [(f, v)]
  | [], _ => rfl
  | (g, x) :: r, h => by
    rw [List.lookup_cons] at h
    cases hg : f == g with
    | true => rw [hg] at h; cases h
    | false =>
      rw [hg] at h
      have hn : ¬ g = f := fun z => by rw [z] at hg; simp at hg
      show (if g = f then (g, v) :: r else (g, x) :: putF f v r) = _
      rw [if_neg hn, putF_new h]
      rfl
/-- self.f = e, a new field -/
theorem ws_fld {C : Addr} {f : Str} {fd : List (Str × D)} (h : δ[n]? = some (.own p (.obj C fd))) (c : Cls K C) (na : NoAttr K C f) (hl : fd.lookup f = none) (hz : fd.length < 900) (q : Wp π tv δ fun r => ∃ x, r.fz = some x ∧ k.nx (δ.set n (.own p (.obj C (fd ++ [(f, x)]))))) : Ws π (sFld K (tVar n) tv f) k δ := fun H0 X0 L X H σ D iv ev ow en => by
  refine q X H σ _ iv.ok ev fun v r H1 k1 ra w => ?_
  have iv1 := iv.keep k1
  have ev1 := ev.keep iv.ok k1
  obtain ⟨x, hf, kn⟩ := w
  obtain ⟨v1, e1, rfl, xp, np, dx, fs, hp, ek, t⟩ := ev1.get h (fun z => by cases z)
  have ax := ra.fz iv.ok hf
  have hlen : fs.length = fd.length := by simpa using congrArg List.length ek
  have hno := lookup_no ek hl
  have m := mut_mo (H := H1) (o := .ins C dx (fs ++ [(f, v)])) xp
  refine ⟨.ref p, e1, p, C, dx, fs, rfl, hp, c, na, by omega, ?_⟩
  rw [putF_new hno]
  refine en.nx X _ σ _ (iv1.mut xp np (ow n _ p h rfl).1 (by rw [hp]; exact nco_ins)) (ev1.mut h xp (.obj C (fd ++ [(f, x)])) np ⟨dx, _, upd_same, by rw [List.map_append, List.map_append, ek]; rfl, by rw [List.map_append, List.map_append]; exact (t.mono m).append (.cons (ax.mono m) .nil)⟩) (ow.mut h) ((iv.ok.fr k1).trans ⟨m, fun a h => ?_⟩) kn
  by_cases ha : a = p
  · rw [ha, upd_same]; exact fun z => by cases z
  · rw [upd_ne ha]; exact h
end
end Dt
namespace Dt
open PySem PySem.Spec PyProof.Rows L2 Ly
/-- a constructor over data: B says what must be so of the arguments that an object k may be counted on -/
def spI (C : Addr) (pt : Bool) (B : List Rv → (D → Prop) → Prop) : Sp := fun vs H Q _ => ∃ (π : Po) (X : Xs) (H1 : Hp) (x dx : Addr) (ws : List V) (rs : List Rv) (k : D → Prop), vs = .ref x :: ws ∧ H1 x = none ∧ H1 dx = none ∧ dx ≠ x ∧ H = L2.upd (L2.upd H1 dx (.own x)) x (.ins C dx []) ∧
  π.pot.isSome = pt ∧ Ok π X H1 ∧ rs.all isArg = true ∧ RAts π X H1 H1 rs ws ∧ B rs k ∧ ∀ H' fs, Kp π H1 H' → AtO (plus X x) H' x (.obj C fs) → k (.obj C fs) → Q .non H'
theorem RAts.up {π : Po} {X : Xs} {H H' : Hp} (m : Mo (cut X H) (cut X H')) : ∀ {rs : List Rv} {vs : List V}, rs.all isArg = true → RAts π X H H rs vs → RAts π X H' H' rs vs
  | [], [], _, _ => trivial
  | r :: rs, v :: vs, h, ⟨a, b⟩ => by
    simp only [List.all_cons, Bool.and_eq_true] at h
    refine ⟨?_, b.up m h.2⟩
    cases r with
    | d x => exact At.mono m a
    | pot => exact a
    | raw w => exact a
    | _ => cases h.1
  | [], _ :: _, _, a => a.elim
  | _ :: _, [], _, a => a.elim
theorem RAts.plus {π : Po} {X : Xs} {H H' : Hp} {x : Addr} (m : Mo (cut X H) (cut (plus X x) H')) : ∀ {rs : List Rv} {vs : List V}, rs.all isArg = true → RAts π X H H rs vs → RAts π (plus X x) H' H' rs vs
  | [], [], _, _ => trivial
  | r :: rs, v :: vs, h, ⟨a, b⟩ => by
    simp only [List.all_cons, Bool.and_eq_true] at h
    refine ⟨?_, RAts.plus m h.2 b⟩
    cases r with
    | d x => exact At.mono m a
    | pot => exact a
    | raw w => exact a
    | _ => cases h.1
  | [], _ :: _, _, a => a.elim
  | _ :: _, [], _, a => a.elim
theorem run_init {C : Addr} {pt : Bool} {B : List Rv → (D → Prop) → Prop} {t : TS} {N : List Str} {m n : Nat} {vs : List V} {H : Hp} {Q : VK} {E : XK} (hm : N.length - (n + 1) = m) (hB : ∀ rs k, B rs k → rs.length = n)
    (ht : ∀ (π : Po) (rs : List Rv) (k : D → Prop) (x : Addr), π.pot.isSome = pt → B rs k → Ws π t { nx := fun δ => ∃ fs, δ[0]? = some (.own x (.obj C fs)) ∧ k (.obj C fs), rt := fun _ => False } (.own x (.obj C []) :: (rs ++ uns m))) (h : spI C pt B vs H Q E) : t { nx := fun _ H' => Q .non H', rt := Q } (L2.start N vs) H := by
  obtain ⟨π, X, H1, x, dx, ws, rs, k, rfl, hx, hdx, hne, rfl, hp, ok, ha, at_, b, q⟩ := h
  have hl := hB rs k b
  have nX : ¬ X x := fun z => ok.dom x z hx
  have nXd : ¬ X dx := fun z => ok.dom dx z hdx
  have npx : ¬ Mu π x := fun z => nX (ok.pot x z).1
  have hx' : (L2.upd H1 dx (.own x)) x = none := by rw [upd_ne hne.symm]; exact hx
  have k1 : Kp π H1 (L2.upd (L2.upd H1 dx (.own x)) x (.ins C dx [])) := (ok.kp.add ok hdx).add ok hx
  have m1 : Mo (cut X H1) (cut (plus X x) (L2.upd (L2.upd H1 dx (.own x)) x (.ins C dx []))) := cut_keep (fun a u n e => k1.keep a u (fun z => n (ok.pot a z).1) e) fun a u n e z => z.elim n (ne_of_none e hx)
  have ok1 : Ok π (plus X x) (L2.upd (L2.upd H1 dx (.own x)) x (.ins C dx [])) := ⟨fun p z => z.elim (fun z => (ok.keep k1).dom p z) fun z => by rw [z, upd_same]; exact fun z => (by cases z), fun q e => ⟨.inl (ok.pot q e).1, k1.pot q e⟩⟩
  have ats := at_.plus m1 ha
  have ev : Ev π (plus X x) (L2.upd (L2.upd H1 dx (.own x)) x (.ins C dx [])) (L2.start N (.ref x :: ws)) (.own x (.obj C []) :: (rs ++ uns m)) := by
    have z := Ev.start (N := List.replicate (N.length - 1) ("" : Str)) (m := m) ats ha (by rw [List.length_replicate, ← at_.length, hl]; omega)
    have es : L2.start N (.ref x :: ws) = some (.ref x) :: L2.start (List.replicate (N.length - 1) ("" : Str)) ws := by
      unfold L2.start
      rw [List.map_cons, List.cons_append, List.length_replicate, List.length_cons]
      congr 3
      omega
    rw [es]
    refine ⟨by rw [List.length_cons, List.length_cons, z.len], fun i r o h1 h2 => ?_, fun i j r s p h1 h2 a1 a2 => ?_⟩
    · cases i with
      | zero =>
        simp only [List.getElem?_cons_zero, Option.some.injEq] at h1 h2
        subst h1
        subst h2
        exact ⟨.ref x, rfl, rfl, .inr rfl, npx, dx, [], upd_same, rfl, .nil⟩
      | succ i =>
        rw [List.getElem?_cons_succ] at h1 h2
        exact z.at_ i r o h1 h2
    · have no : ∀ (i : Nat) (r : Rv), (rs ++ uns m)[i]? = some r → Fre r := fun i r h p e => (own_args (H0 := fun _ => some (.own 0)) (X0 := fun _ => True) ha i r p h e).2 trivial
      cases i with
      | zero =>
        cases j with
        | zero => rfl
        | succ j =>
          rw [List.getElem?_cons_succ] at h2
          exact (no j s h2 _ a2).elim
      | succ i =>
        rw [List.getElem?_cons_succ] at h1
        exact (no i r h1 _ a1).elim
  have ow : Own0 H1 X (.own x (.obj C []) :: (rs ++ uns m)) := fun i r p h1 a1 => by
    cases i with
    | zero =>
      simp only [List.getElem?_cons_zero, Option.some.injEq] at h1
      subst h1
      cases a1
      exact ⟨hx, nX⟩
    | succ i =>
      rw [List.getElem?_cons_succ] at h1
      exact own_args ha i r p h1 a1
  refine ht π rs k x hp b H1 X (fun _ => none) (plus X x) _ _ _ ⟨ok1, ok, by rw [undo_none]; exact k1, fun _ z => .inl z, fun a u e => (by cases e), fun a h => ?_⟩ ev ow ⟨fun X' H' σ δ iv e2 _ _ w => ?_, fun X' H' σ δ iv _ _ _ w => w.elim, fun X' H' σ δ iv _ _ _ w => w.elim, fun X' H' v r iv _ no a w => w.elim, fun _ _ _ _ _ _ _ _ _ _ z => z.elim, fun _ _ => rfl⟩
  · exact fun z => h (k1.free ok z)
  · obtain ⟨fs, h0, kf⟩ := w
    obtain ⟨v, _, _, xx, _, t0⟩ := e2.get h0 (fun z => by cases z)
    have z := iv.kp
    rw [undo_none] at z
    exact q H' fs z (t0.less (cut_less fun a y => y.elim (iv.sub a) fun y => by rw [y]; exact xx)) kf
/-- a class whose objects are made over data -/
theorem len_I {C : Addr} {pt : Bool} {B : List Rv → (D → Prop) → Prop} {n : Nat} (hB : ∀ rs k, B rs k → rs.length = n) : ∀ vs H Q E, spI C pt B vs H Q E → vs.length = n + 1 := fun vs H Q E ⟨π, X, H1, x, dx, ws, rs, k, h, _, _, _, _, _, _, _, at_, b, _⟩ => by
  rw [h, List.length_cons, ← at_.length, hB rs k b]
section
variable {π : Po} {δ : List Rv} {k : Rv → Prop} {t : TA} {C : Addr} {B : List Rv → (D → Prop) → Prop} {dvs : List V} {drs : List Rv}
def DRel : List Rv → List V → Prop
  | [], [] => True
  | .d (.int i) :: rs, .int j :: vs => i = j ∧ DRel rs vs
  | .d .non :: rs, .non :: vs => DRel rs vs
  | _, _ => False
theorem drel_ats {π : Po} {X : Xs} {H0 H : Hp} : ∀ {rs : List Rv} {vs : List V}, DRel rs vs → RAts π X H0 H rs vs
  | [], [], _ => trivial
  | .d (.int i) :: rs, .int j :: vs, ⟨h, g⟩ => ⟨(by rw [h]; exact At.int j), drel_ats g⟩
  | .d .non :: rs, .non :: vs, g => ⟨At.non, drel_ats g⟩
  | [], _ :: _, h => h.elim
  | .d (.int i) :: rs, [], h => h.elim
  | .d .non :: rs, [], h => h.elim
theorem RAts.app {π : Po} {X : Xs} {H0 H : Hp} : ∀ {rs ss : List Rv} {vs ws : List V}, RAts π X H0 H rs vs → RAts π X H0 H ss ws → RAts π X H0 H (rs ++ ss) (vs ++ ws)
  | [], _, [], _, _, b => b
  | _ :: _, _, _ :: _, _, ⟨a, c⟩, b => ⟨a, c.app b⟩
  | [], _, _ :: _, _, a, _ => a.elim
  | _ :: _, _, [], _, a, _ => a.elim
/-- C(..): an object -/
theorem w_make (hd : DRel drs dvs) (q : WpA π t δ fun as => ∃ rs, fzA as = some rs ∧ (rs ++ drs).all isArg = true ∧ (rs ++ drs).all noPot = true ∧ B (rs ++ drs) fun d => k (.d d)) : Wp π (tMake C (spI C false B) dvs E0 t) δ k := fun X H σ Q o e h => by
  refine q X H σ _ o e fun vs as H1 k1 a w => ?_
  obtain ⟨rs, hf, hA, hN, b⟩ := w
  intro x dx hx hdx hne
  have o1 := o.keep k1
  have a1 := a.fzA o hf
  refine ⟨no, X, H1, x, dx, vs ++ dvs, rs ++ drs, fun d => k (.d d), rfl, hx, hdx, hne, rfl, rfl, o1.none, hA, (a1.app (drel_ats hd)).free hA hN, b, fun H' fs k2 t2 kd => ⟨rfl, ?_⟩⟩
  have k3 : Kp π H1 H' := Kp.of_same o1 k2.same
  have nX : ¬ X x := fun z => o1.dom x z hx
  refine h (.ref x) (.d (.obj C fs)) H' (k1.trans k3) ?_ kd
  obtain ⟨dx', fs', e1, e2, t3⟩ := t2
  exact At.obj (cut_of nX e1) e2 (t3.mono plus_sub)
end
end Dt
namespace Dt
open PySem PySem.Spec PyProof.Rows L2 Ly
abbrev ratQ (C : Addr) (q : Rat) : D := .obj C [("_top", .int q.num), ("_bottom", .int (q.den : Int))]
theorem nu_q {t b : Int} (h : b ≠ 0) : Nu t b = (Rat.divInt t b).num := by
  rw [Rat.num_divInt]
  unfold Nu G
  rw [Int.gcd_comm b t]
  by_cases h0 : 0 < b
  · rw [if_pos h0, Int.sign_eq_one_of_pos h0, Int.one_mul]
  · rw [if_neg h0, Int.sign_eq_neg_one_of_neg (by omega), Int.neg_one_mul]
theorem de_q {t b : Int} (h : b ≠ 0) : De t b = ((Rat.divInt t b).den : Int) := by
  rw [Rat.den_divInt, if_neg h]
  unfold De G
  rw [Int.gcd_comm b t]
  have hg : 0 < Int.gcd t b := Int.gcd_pos_of_ne_zero_right t h
  by_cases h0 : 0 < b
  · rw [if_pos h0, Int.natCast_ediv]
    congr 1
    omega
  · rw [if_neg h0, Int.natCast_ediv]
    congr 1
    omega
def SzQ (n : Nat) (q : Rat) : Prop := Sz n q.num ∧ Sz n (q.den : Int)
/-- a number: an int or a Ratio -/
inductive NumQ (C : Addr) : D → Rat → Prop
  | int (i : Int) : NumQ C (.int i) (i : Rat)
  | rat (q : Rat) : NumQ C (ratQ C q) q
end Dt
namespace Dt
open PySem PySem.Spec PyProof.Rows L2 Ly
theorem ex_fzd {x : D} {P : D → Prop} (q : P x) : ∃ y, (Rv.d x).fz = some y ∧ P y := ⟨x, rfl, q⟩
theorem ex_fzn {x : D} {P : D → Prop} (q : P x) : ∃ y, (Rv.new x).fz = some y ∧ P y := ⟨x, rfl, q⟩
theorem ite_nt {A B : Prop} (h : B) : if (!true) = true then A else B := ite_f (A := A) h
theorem ite_nf {A B : Prop} (h : A) : if (!false) = true then A else B := ite_t (B := B) h
section
variable {π : Po} {δ : List Rv} {k : Rv → Prop} {K : PySem.W.Frag}
theorem wop_fdX {i j : Int} (c : CDivX i j) (q : k (.d (.int (i.fdiv j)))) : WOp π (rI CDivX fun i j => V.int (i.fdiv j)) (.d (.int i)) (.d (.int j)) k := fun X H0 H x y Q o0 o k0 ra rb h => by
  cases ra; cases rb
  exact i_I c (h _ (.d (.int (i.fdiv j))) H o.kp (At.int _) q)
theorem wun_U {i : Int} {g : Int → V} {j : Int} (e : g i = .int j) (q : k (.d (.int j))) : WUn π (rU g) (.d (.int i)) k := fun X H0 H x Q o0 o k0 ra h => by
  cases ra
  refine i_U ?_
  rw [e]
  exact h _ (.d (.int j)) H o.kp (At.int _) q
theorem fld_of {f : Str} {r : Rv} {C : Addr} {fd : List (Str × D)} {d : D} (ho : r.ob = some (C, fd)) (c : Cls K C) (n : NoAttr K C f) (l : fd.lookup f = some d) (q : k (.d d)) : Fld K f r k := ⟨C, fd, d, ho, c, n, l, q⟩
def bTop (C : Addr) (rs : List Rv) (k : Rv → Prop) : Prop := ∃ q, rs = [.d (ratQ C q)] ∧ k (.d (.int q.num))
def bBot (C : Addr) (rs : List Rv) (k : Rv → Prop) : Prop := ∃ q, rs = [.d (ratQ C q)] ∧ k (.d (.int (q.den : Int)))
theorem wp_top {E : XK} {C : Addr} {q : Rat} (h : k (.d (.int q.num))) : (∃ fd, (Rv.d (ratQ C q)).ob = some (C, fd)) ∧ WCb π (fun vs H Q => spW false (bTop C) vs H Q E) [Rv.d (ratQ C q)] k :=
  ⟨⟨_, rfl⟩, wcb_W0 (rs := [.d (ratQ C q)]) rfl rfl ⟨q, rfl, (fun z => by cases z), h⟩⟩
theorem wp_bot {E : XK} {C : Addr} {q : Rat} (h : k (.d (.int (q.den : Int)))) : (∃ fd, (Rv.d (ratQ C q)).ob = some (C, fd)) ∧ WCb π (fun vs H Q => spW false (bBot C) vs H Q E) [Rv.d (ratQ C q)] k :=
  ⟨⟨_, rfl⟩, wcb_W0 (rs := [.d (ratQ C q)]) rfl rfl ⟨q, rfl, (fun z => by cases z), h⟩⟩
end
section
variable {X : Cx} {K : PySem.W.Frag} {e o value : Expr} {f : Str} {pos tpos : Pos} {ta tv : TE}
theorem pe_fldK (hK : X.K = K) (he : PE X e ta) (hb : attributeBase e f X.env (eval e X.env) = eval e X.env) : PE X (.Attribute e f pos) (tFld K ta f) := by
  subst hK
  exact pe_fld he hb
theorem ps_fldK (hK : X.K = K) (ho : PE X o ta) (hv : PE X value tv) (hb : swapsWith value (some (.Attribute o f tpos)) pos.line X.env = pure false) : PS X (.Assign [.Attribute o f tpos] value pos) (sFld K ta tv f) := by
  subst hK
  exact ps_fld ho hv hb
end
end Dt
namespace Dt
open PySem PySem.Spec PyProof.Rows L2 Ly
end Dt
namespace GR
open PySem PySem.Spec PyProof.Rows L2 Ly
open Builtin Builtin.List
theorem weight_loop (args : Args) : (Code.builtin "list.__repr__.loop" args).weight = 1 := by kernel_rfl
theorem weight_tupU (args : Args) : (Code.builtin "tuple.__repr__.under" args).weight = 1 := by kernel_rfl
theorem under_ok {j : Nat} {A : Around} {id : String} {args : Args} (hw : (Code.builtin id args).weight = 1) (hu : (A.under (.builtin id args)).units = A.units + 1) (r : Room (j + 1) A) : (A.under (.builtin id args)).frames = A.frames ∧ Room j (A.under (.builtin id args)) := by
  refine ⟨by simp [Around.under, Code.envs, Code.isFrame, pushEnvs], ⟨by have := r.hd; simpa [Around.under] using this, ?_, by have := r.un; rw [hu]; omega⟩⟩
  have := r.dp
  have e : (A.under (.builtin id args)).depth = A.depth + 1 := by simp [Around.under, hw]
  rw [e]
  omega
/-- what a value's repr is, whatever is under way: j levels of own code -/
def Sh (X : Cx) (j : Nat) (pins : List (Addr × Obj)) (σ : L2.St) (as : List Addr) (H0 : Hp) (x : Value) (t : Str) : Prop :=
  ∀ (base : Nat), base + t.length ≤ sizeLine → ∀ (A : Around) (g : List Code) (E : Value → Shared → Prop) (s : Shared) (H : Hp) (Q : Str → Shared → Prop), A.guards = some g → (∀ b ∈ as, Clear g b) → A.frames = X.A.frames → Room j A → Inv X pins σ H s → Same H0 H →
    (∀ s' H', Inv X pins σ H' s' → Same H H' → Q t s') → wpAny (model X.prog X.w) A (pyReprUnder base x) Q E s
def ShV (X : Cx) (j : Nat) (pins : List (Addr × Obj)) (σ : L2.St) (as : List Addr) (H0 : Hp) (v : V) (t : Str) : Prop := ∀ u, RelV v u → Sh X j pins σ as H0 u t
section
variable {X : Cx} {j : Nat} {pins : List (Addr × Obj)} {σ : L2.St} {as : List Addr} {H0 : Hp}
theorem Sh.of_is {x : Value} {t : Str} (h : ReprIs X.prog X.w x t) : Sh X j pins σ as H0 x t := fun base hb A _ E s H Q _ _ _ _ I S q => h base hb A E s Q fun tk => q _ H (I.tok tk) (.refl H)
theorem ShV.int {i : Int} (h : i.natAbs.log2 < 1920) : ShV X j pins σ as H0 (.int i) (toString i) := fun u r => by
  obtain ⟨t, rfl⟩ := r
  exact .of_is (.int t h)
theorem ShV.str {x : Str} (h : (reprText x).length ≤ sizeLine) : ShV X j pins σ as H0 (.str x) (reprText x) := fun u r => by
  obtain ⟨t, rfl⟩ := r
  exact .of_is (.str x t h)
theorem ShV.bl {b : Bool} : ShV X j pins σ as H0 (.bl b) (if b then "True" else "False") := fun u r => by
  cases (show u = .bool b from r)
  exact .of_is (.bool b)
theorem ShV.non : ShV X j pins σ as H0 .non "None" := fun u r => by
  cases (show u = .none from r)
  exact .of_is .none
theorem Sh.up {k : Nat} {as' : List Addr} {H0' : Hp} {x : Value} {t : Str} (h : Sh X j pins σ as H0 x t) (hk : j ≤ k) (ha : ∀ b ∈ as, b ∈ as') (s : Same H0 H0') : Sh X k pins σ as' H0' x t :=
  fun base hb A g E s1 H Q hg hc hf hr I S q => h base hb A g E s1 H Q hg (fun b m => hc b (ha b m)) hf (hr.mono hk) I (s.trans S) q
theorem ShV.up {k : Nat} {as' : List Addr} {H0' : Hp} {x : V} {t : Str} (h : ShV X j pins σ as H0 x t) (hk : j ≤ k) (ha : ∀ b ∈ as, b ∈ as') (s : Same H0 H0') : ShV X k pins σ as' H0' x t := fun u r => (h u r).up hk ha s
inductive ShVs (X : Cx) (j : Nat) (pins : List (Addr × Obj)) (σ : L2.St) (as : List Addr) (H0 : Hp) : List V → List Str → Prop
  | nil : ShVs X j pins σ as H0 [] []
  | cons {x : V} {t : Str} {l : List V} {ts : List Str} : ShV X j pins σ as H0 x t → ShVs X j pins σ as H0 l ts → ShVs X j pins σ as H0 (x :: l) (t :: ts)
theorem ShVs.length : ∀ {l : List V} {ts : List Str}, ShVs X j pins σ as H0 l ts → ts.length = l.length
  | _, _, .nil => rfl
  | _, _, .cons _ h => by simp [h.length]
theorem ShVs.get : ∀ {l : List V} {ts : List Str} {i : Nat} {v : V}, ShVs X j pins σ as H0 l ts → l[i]? = some v → ∃ t, ts[i]? = some t ∧ ShV X j pins σ as H0 v t
  | _, _, _, _, .nil, e => by simp at e
  | _, _, 0, _, .cons h _, e => by simp at e; subst e; exact ⟨_, rfl, h⟩
  | _, _, i + 1, v, .cons _ t, e => by
    obtain ⟨d, h1, h2⟩ := t.get (i := i) (v := v) (by simpa using e)
    exact ⟨d, by simpa using h1, h2⟩
theorem strs_vals : ∀ {ss : List Str} {its : List Value}, Vals (ss.map V.str) its → ∃ done : List (Str × Tok), its = strValues done ∧ done.map (·.1) = ss
  | [], _, h => by cases h; exact ⟨[], rfl, rfl⟩
  | s :: ss, _, h => by
    cases h with
    | cons r t =>
      obtain ⟨done, e1, e2⟩ := strs_vals t
      obtain ⟨tk, rfl⟩ := r
      exact ⟨(s, tk) :: done, by rw [e1]; rfl, by rw [← e2]; rfl⟩
/-- the loop of list.__repr__ -/
theorem list_loop {R : Result → Shared → Prop} {A : Around} {a P : Addr} (hne : a ≠ P) {vs : List V} {ts : List Str} {base : Nat} {g : List Code} (hg : A.guards = some g) (hcl : ∀ b ∈ as, Clear g b) (hfr : A.frames = X.A.frames) (hr : Room (j + 1) A) (hna : a ∉ as)
    (hT : ShVs X j pins σ as H0 vs ts) (hsz : base + (listText ts).length ≤ sizeLine) (hA : H0 a = some (.lst vs)) {H1 : Hp} (hP0 : H1 P = none) (hS : Same H0 H1) :
    ∀ (k i : Nat) (s : Shared) (H : Hp), vs.length - i = k → i ≤ vs.length → Inv X pins σ H s → Same H0 H → Same H1 H → H P = some (.lst ((ts.take i).map V.str)) → 
    (∀ s' H' u, Inv X pins σ H' s' → Same H1 H' → R (.ok (.ret (.str (listText ts) u))) s') →
    codeAny (model X.prog X.w) A (.builtin "list.__repr__.loop" ⟨[.ref a, rawInt i, .ref P, rawInt ((base + piled (ts.take i) : Nat) : Int)], []⟩) R s := by
  have hlen := hT.length
  have hX : (listText ts).length = (textFrom 0 "[" ts).length + 1 := by
    show (textFrom 0 "[" ts ++ "]").length = _
    rw [strLen_append]; rfl
  have hL := textFrom_len ts 0 "["
  have hsz1 : vs.length ≤ sizeLine := by
    have h1 := hL.1
    rw [if_neg (Nat.lt_irrefl 0)] at h1
    omega
  have hsz2 : ∀ t ∈ ts, t.length ≤ sizeLine := fun t ht => by
    have h2 := hL.2.1 t ht
    omega
  have hsz3 : (listText ts).length ≤ sizeLine := by omega
  have hp3 := piled_le_listText ts
  intro k
  induction k with
  | zero =>
    intro i s H hk hi I S S1 hP hR
    have hin : i = vs.length := by omega
    obtain ⟨z, its, n, r, hl, e⟩ := I.lstM (S _ _ hA)
    obtain ⟨zP, itsP, nP, rP, hlP, eP⟩ := I.lstM hP
    obtain ⟨done, hacc, hdone⟩ := strs_vals rP
    refine codeAny_builtin F.entry_list_repr_loop ?_
    show wpAny _ _ («list.__repr__.loop» ⟨[.ref a, .int i 0, .ref P, .int ((base + piled (ts.take i) : Nat) : Int) 0], []⟩) _ _ s
    rw [repr_loop_tree]
    refine wpAny_bind (wpAny_listItems e rfl ?_)
    have hnone : its.toArray[(i : Int).toNat]? = none := by simp [hin, hl]
    simp only [hnone]
    unfold reprEnd
    refine wpAny_bind (wpAny_listItems eP rfl ?_)
    rw [hacc, repr_fold]
    refine wpAny_bind (wpAny_pure ?_)
    have hall : done.map (·.1) = ts := by rw [hdone, hin, ← hlen, List.take_length]
    rw [hall]
    refine wpAny_bind (wpAny_mkStr (wpAny_pure ?_) hsz3)
    exact hR _ H _ (I.tok _) S1
  | succ k ih =>
    intro i s H hk hi I S S1 hP hR
    have hlt : i < vs.length := by omega
    obtain ⟨z, its, n, r, hl, e⟩ := I.lstM (S _ _ hA)
    obtain ⟨t, ht, hrep⟩ := hT.get (i := i) (v := vs[i]) (by simp [hlt])
    have hp1 := piled_take_succ ht
    have hp2 := piled_take_le ts (i + 1)
    refine codeAny_builtin F.entry_list_repr_loop ?_
    show wpAny _ _ («list.__repr__.loop» ⟨[.ref a, .int i 0, .ref P, .int ((base + piled (ts.take i) : Nat) : Int) 0], []⟩) _ _ s
    rw [repr_loop_tree]
    refine wpAny_bind (wpAny_listItems e rfl ?_)
    have hlt' : i < its.length := by omega
    have hsome : its.toArray[(i : Int).toNat]? = some its[i] := by simp [hlt']
    simp only [hsome]
    rw [Int.toNat_natCast]
    have hrel : RelV vs[i] its[i] := by
      obtain ⟨u, h1, h2⟩ := Vals.get r (i := i) (x := vs[i]) (by simp [hlt])
      rw [List.getElem?_eq_getElem hlt'] at h1
      cases h1
      exact h2
    obtain ⟨uf, ur⟩ := under_ok (args := ⟨[.ref a, .int i 0, .ref P, .int ((base + piled (ts.take i) : Nat) : Int) 0], []⟩) (weight_loop _) (units_under_list_loop _ _) hr
    refine wpAny_bind (wpAny_holding (hrep _ hrel (base + piled (ts.take i) + 1) (by omega) _ _ _ _ H _ (guards_under_guard (isGuard_list_loop _) hg) (fun b hb => (hcl b hb).cons (a := a) fun e => hna (e ▸ hb)) (uf.trans hfr) ur I S fun s2 H2 I2 S2 => ?_))
    refine wpAny_bind (wpAny_mkStr ?_ (hsz2 t (List.mem_of_getElem? ht)))
    refine wpAny_bind ?_
    show wpAny _ _ (updateSeq P _) _ _ _
    have I3 := I2.tok (s2.toks + 1)
    obtain ⟨zP, itsP, nP, rP, hlP, eP⟩ := I3.lstM (S2 _ _ hP)
    have hz4 : ((ts.take (i + 1)).map V.str).length ≤ sizeLine := by
      rw [List.length_map, List.length_take]
      omega
    refine wpAny_updateSeq eP rfl (wpAny_pure ⟨F.quiet_list_repr_loop _, ?_⟩) (by rw [List.size_toArray, ← hlP]; exact zP)
    have e1 : ((i : Int) + 1) = ((i + 1 : Nat) : Int) := by omega
    have e2 : base + piled (ts.take i) + (t.length + 2) = base + piled (ts.take (i + 1)) := by omega
    rw [e1, e2]
    have et : ts.take (i + 1) = ts.take i ++ [t] := by rw [List.take_add_one, ht]; rfl
    have I4 := I3.lset (its' := itsP ++ [.str t s2.toks]) (ys := (ts.take (i + 1)).map V.str) (f := fun x => x.push (.str t s2.toks)) (t' := s2.toks + 1) (S2 _ _ hP) eP (by simp) (by rw [et, List.map_append]; exact rP.append (.cons ⟨_, rfl⟩ .nil)) hz4
    have hk : ∀ b o, b ≠ P → H2 b = some o → (L2.upd H2 P (.lst ((ts.take (i + 1)).map V.str))) b = some o := fun b o hb e => by rw [upd_ne hb]; exact e
    refine ih (i + 1) _ (L2.upd H2 P (.lst ((ts.take (i + 1)).map V.str))) (by omega) hlt I4 (fun b o e => hk b o (ne_of_none (hS b o e) hP0) (S2 _ _ (S b o e))) (fun b o e => hk b o (ne_of_none e hP0) (S2 _ _ (S1 b o e))) upd_same hR
/-- list.__repr__, at whatever characters came before -/
theorem list_at {R : Result → Shared → Prop} {A : Around} {g : List Code} {s : Shared} {H : Hp} {base : Nat} {a : Addr} {vs : List V} {ts : List Str} (hA : H0 a = some (.lst vs)) (hna : a ∉ as) (hT : ShVs X j pins σ as H0 vs ts)
    (hb : base + (listText ts).length ≤ sizeLine) (hg : A.guards = some g) (hcl : ∀ b ∈ a :: as, Clear g b) (hfr : A.frames = X.A.frames) (hr : Room (j + 1) A) (I : Inv X pins σ H s) (S : Same H0 H)
    (q : ∀ s' H' u, Inv X pins σ H' s' → Same H H' → R (.ok (.ret (.str (listText ts) u))) s') :
    wpAny (model X.prog X.w) A.in1 (Builtin.listReprAt base ⟨[.ref a], []⟩) (fun fin s' => match fin with | .done f => R (.ok f) s' | .again c' => c'.quiet = true ∧ codeAny (model X.prog X.w) A c' R s') (fun e s' => R (.error e) s') s := by
  obtain ⟨z, its, n, r, hl, e⟩ := I.lstM (S _ _ hA)
  cases hT with
  | nil =>
    cases r
    exact wpAny_list_repr_empty e rfl (q _ H _ (I.tok _) (.refl H))
  | @cons v0 t0 vs ts h0 hT =>
    obtain ⟨x, l, rfl⟩ : ∃ x l, its = x :: l := by cases its with | nil => simp at hl | cons x l => exact ⟨x, l, rfl⟩
    have hca : Clear g a := hcl a (.head _)
    refine wpAny_list_repr_head (A := A.in1) hg (fun v rest kw hm => listSameRef_of_ne (hca _ _ _ _ hm)) e rfl ?_
    refine wpAny_bind (m := newList []) (wpAny_newObj_type ?_)
    refine wpAny_pure ⟨F.quiet_list_repr_loop _, ?_⟩
    have hfree := I.hok.fresh (Nat.le_refl s.heap.objs.size)
    have I1 : Inv X pins σ (L2.upd H s.heap.objs.size (.lst [])) { s with heap := s.heap.push { cls := .type "list", data := .seq #[] } } := I.laid (t' := s.toks) (fun b u e => Heap.get?_push_of_some _ e) (Nat.le_refl _)
      (show ObjOk X.prog X.w _ _ _ (.lst []) from ⟨Nat.zero_le _, [], 0, .nil, Heap.get?_push_size _ rfl⟩)
    have Su : Same H (L2.upd H s.heap.objs.size (.lst [])) := fun b o e => by rw [upd_ne (ne_of_none e hfree)]; exact e
    exact list_loop (P := s.heap.objs.size) (H1 := H) (Nat.ne_of_lt (Heap.lt_size e)) hg (fun b hb => hcl b (.tail _ hb)) hfr hr hna (.cons h0 hT) hb hA hfree S _ 0 _ (L2.upd H s.heap.objs.size (.lst [])) rfl (Nat.zero_le _) I1 (S.trans Su) Su upd_same q
/-- a list -/
theorem ShV.list {a : Addr} {vs : List V} {ts : List Str} (hA : H0 a = some (.lst vs)) (hna : a ∉ as) (hT : ShVs X j pins σ as H0 vs ts) : ShV X (j + 1) pins σ (a :: as) H0 (.ref a) (listText ts) := by
  intro u ru base hb A g E s H Q hg hcl hfr hr I S q
  cases (show u = Value.ref a from ru)
  obtain ⟨z, its, n, r, hl, e⟩ := I.lstM (S _ _ hA)
  have hu := hr.un
  refine wpAny_pyReprUnder_ref (by omega) (wpAny_pyReprObjUnder_twin (twin := "list.__repr__.under") ⟨_, e, rfl⟩ F.slot_list_repr.toG rfl (by omega) ?_)
  exact call_twin_plain F.plain_list_repr_under F.entry_list_repr_under F.check_list_repr_under ⟨_, e, rfl⟩ F.slot_list_repr.toG (F.args_list_repr_1 _) (list_at hA hna hT hb hg hcl hfr hr I S fun s' H' u I' S' => ⟨⟨_, _, rfl⟩, _, _, rfl, q _ H' I' S'⟩)
inductive ShAll (X : Cx) (j : Nat) (pins : List (Addr × Obj)) (σ : L2.St) (as : List Addr) (H0 : Hp) : List Value → List Str → Prop
  | nil : ShAll X j pins σ as H0 [] []
  | cons {x : Value} {t : Str} {l : List Value} {ts : List Str} : Sh X j pins σ as H0 x t → ShAll X j pins σ as H0 l ts → ShAll X j pins σ as H0 (x :: l) (t :: ts)
theorem ShAll.length : ∀ {l : List Value} {ts : List Str}, ShAll X j pins σ as H0 l ts → ts.length = l.length
  | _, _, .nil => rfl
  | _, _, .cons _ h => by simp [h.length]
theorem ShVs.all : ∀ {l : List V} {its : List Value} {ts : List Str}, ShVs X j pins σ as H0 l ts → Vals l its → ShAll X j pins σ as H0 its ts
  | _, _, _, .nil, r => by cases r; exact .nil
  | _, _, _, .cons h t, r => by cases r with | cons r1 r2 => exact .cons (h _ r1) (t.all r2)
theorem tup_fold {A : Around} {E : Value → Shared → Prop} {g : List Code} (hg : A.guards = some g) (hcl : ∀ b ∈ as, Clear g b) (hfr : A.frames = X.A.frames) (hr : Room j A) : ∀ (l : List Value) (ts : List Str) (acc : Array Str) (n : Nat) (s : Shared) (H : Hp) (Q : (Array Str × Nat) → Shared → Prop), ShAll X j pins σ as H0 l ts → n + piled ts ≤ sizeLine →
    Inv X pins σ H s → Same H0 H → (∀ s' H', Inv X pins σ H' s' → Same H H' → Q ⟨acc ++ ts.toArray, n + piled ts⟩ s') → wpAny (model X.prog X.w) A (forIn l (⟨acc, n⟩ : (Array Str × Nat)) tupBody) Q E s := by
  intro l
  induction l with
  | nil =>
    intro ts acc n s H Q hT _ I S h
    cases hT
    have h0 := h s H I (.refl H)
    simp only [List.forIn_nil]
    exact wpAny_pure (by simpa [piled] using h0)
  | cons x l ih =>
    intro ts acc n s H Q hT hn I S h
    cases hT with
    | cons hx hl =>
      rename_i t ts'
      rw [piled_cons] at hn
      rw [List.forIn_cons]
      refine wpAny_bind (wpAny_bind (hx (n + 1) (by omega) _ _ _ _ H _ hg hcl hfr hr I S fun s' H' I' S' => wpAny_pure ?_))
      refine ih ts' (acc.push t) (n + (t.length + 2)) _ H' Q hl (by omega) I' (S.trans S') fun s2 H2 I2 S2 => ?_
      have h1 := h s2 H2 I2 (S'.trans S2)
      have e : n + piled (t :: ts') = n + (t.length + 2) + piled ts' := by rw [piled_cons]; omega
      rw [e] at h1
      simpa using h1
theorem tup_at {R : Result → Shared → Prop} {A : Around} {g : List Code} {s : Shared} {H : Hp} {base : Nat} {a : Addr} {vs : List V} {ts : List Str} {id : String} {rest : List Value} (hA : H0 a = some (.tup vs)) (hna : a ∉ as) (hT : ShVs X j pins σ as H0 vs ts)
    (hcg : (Code.builtin id ⟨.ref a :: rest, []⟩).isGuard = true) (hcu : (A.under (.builtin id ⟨.ref a :: rest, []⟩)).units = A.units + 1) (hcw : (Code.builtin id ⟨.ref a :: rest, []⟩).weight = 1)
    (hsz : base + (tupleText ts).length ≤ sizeLine) (hg : A.guards = some g) (hcl : ∀ b ∈ a :: as, Clear g b) (hfr : A.frames = X.A.frames) (hr : Room (j + 1) A) (I : Inv X pins σ H s) (S : Same H0 H)
    (q : ∀ s' H' u, Inv X pins σ H' s' → Same H H' → R (.ok (.ret (.str (tupleText ts) u))) s') :
    wpOwn (model X.prog X.w) A (.builtin id ⟨.ref a :: rest, []⟩) (Builtin.tupleReprAt base ⟨[.ref a], []⟩) (fun fin s' => match fin with | .done f => R (.ok f) s' | .again c' => c'.quiet = true ∧ codeAny (model X.prog X.w) A c' R s') (fun e s' => R (.error e) s') s := by
  obtain ⟨z, its, r, o, h1, h2, n, h3⟩ := (show ObjOk X.prog X.w H s.heap a (.tup vs) from I.hok a _ (S _ _ hA))
  have hl := Vals.length r
  have hca : Clear g a := hcl a (.head _)
  have hAll := hT.all r
  have hlen : ts.length = its.length := hAll.length
  have hp := piled_le_tupleText ts
  have hsz0 : (tupleText ts).length ≤ sizeLine := by omega
  obtain ⟨uf, ur⟩ := under_ok hcw hcu hr
  rw [tuple_repr_tree, tupleReprUnderWay_eq]
  refine wpOwn_bind (wpOwn_stackTailAny hg (tupGuardF_off _) (tupGuardF_pos _) ?_)
  have hn : (g.any fun c => tupGuardF (.ref a) (c, default)) = false := by
    rw [List.any_eq_false]
    intro c hcm
    rw [tupGuardF_of_clear hca c hcm]
    exact Bool.false_ne_true
  rw [hn]
  refine wpOwn_of_wpAny ?_
  show wpAny _ _ (tupleReprRest base (.ref a)) _ _ s
  unfold tupleReprRest Builtin.Tuple.tupleItemsOf
  refine wpAny_bind (wpAny_bind (wpAny_seqItems h1 h3 (wpAny_pure ?_)))
  rw [← Array.forIn_toList]
  refine wpAny_bind (tup_fold (guards_under_guard hcg hg) (fun b hb => (hcl b (.tail _ hb)).cons (a := a) fun e => hna (e ▸ hb)) (uf.trans hfr) ur _ ts _ _ _ H _ hAll (by omega) I S fun s' H' I' S' => ?_)
  refine wpAny_bind (wpAny_mkStr (wpAny_pure ?_) (by simpa [tupleText, hlen] using hsz0))
  have h1 := q _ H' s'.toks (I'.tok (s'.toks + 1)) S'
  simpa [tupleText, hlen] using h1
theorem ShV.tup {a : Addr} {vs : List V} {ts : List Str} (hA : H0 a = some (.tup vs)) (hna : a ∉ as) (hT : ShVs X j pins σ as H0 vs ts) : ShV X (j + 1) pins σ (a :: as) H0 (.ref a) (tupleText ts) := by
  intro u ru base hb A g E s H Q hg hcl hfr hr I S q
  cases (show u = Value.ref a from ru)
  obtain ⟨z, its, r, o, h1, h2, n, h3⟩ := (show ObjOk X.prog X.w H s.heap a (.tup vs) from I.hok a _ (S _ _ hA))
  have hu := hr.un
  refine wpAny_pyReprUnder_ref (by omega) (wpAny_pyReprObjUnder_twin (twin := "tuple.__repr__.under") ⟨o, h1, h2⟩ F.slot_tuple_repr rfl (by omega) ?_)
  exact call_twin_own (F.quiet_tuple_repr_under _) F.entry_tuple_repr_under F.check_tuple_repr_under ⟨o, h1, h2⟩ F.slot_tuple_repr (F.args_tuple_repr_1 _)
    (tup_at hA hna hT (isGuard_tuple_repr_under _) (units_under_tuple_repr_under _ _) (weight_tupU _) hb hg hcl hfr hr I S fun s' H' u I' S' => ⟨⟨_, _, rfl⟩, _, _, rfl, q _ H' I' S'⟩)
/-- an object of an own class -/
theorem ShV.own {C f a dx : Addr} {fd : FuncData} {ps : List Str} {sp : Sp} {k : Nat} {fs : List (Str × V)} {t : Str} (F : FnOk X.prog X.w X.K X.mg X.base CX0 k f fd ps sp) (hb : Binds X.K fd ps []) (hs : PySem.W.findIn X.K (.ref C) "__repr__" = some (some (.ref f))) (hf : PySem.W.isFn X.K (.ref f) = true)
    (hA : H0 a = some (.ins C dx fs)) (h : ∀ H, Same H0 H → sp [.ref a] H (fun v H' => v = .str t ∧ Same H H') E0) : ShV X k pins σ as H0 (.ref a) t := by
  intro u ru base hz A g E s H Q hg hcl hfr hr I S q
  cases (show u = Value.ref a from ru)
  have hu := hr.un
  obtain ⟨mA, J, _⟩ := ins_get I.hok (S _ _ hA)
  obtain ⟨od, J, _⟩ := J.look
  refine wpAny_pyReprUnder_ref (by omega) ?_
  unfold pyReprObjUnder pyReprObjBy
  refine wpAny_bind (wpAny_cRoomFor (by omega) ?_)
  refine wpAny_bind (wpAny_bind (J.type.here ((PySem.W.looks_findIn I.kIn hs).here ?_)))
  show wpAny _ _ (if (some (Value.ref f)).isNone = true then _ else _) _ _ _
  rw [if_neg (by simp)]
  have run : wpAny (model X.prog X.w) A (call (.ref f) [.ref a]) (fun v s' => ∃ x u, v = .str x u ∧ Q x s') E s := by
    refine wpAny_mono (run_at (us := [.ref a]) (vs := [.ref a]) F hr hfr hb I (.cons rfl .nil) (h H S)) (fun v s' hv => ?_) fun _ _ e => e
    obtain ⟨v0, H', I', rv, rfl, S'⟩ := hv
    obtain ⟨tk, rfl⟩ := rv
    exact ⟨_, _, rfl, q _ H' I' S'⟩
  have fin : wpAny (model X.prog X.w) A (call (.ref f) ([.ref a] ++ []) >>= fun v => pure (some v)) (fun v s' => ∃ x u, v = some (.str x u) ∧ Q x s') E s :=
    wpAny_bind (wpAny_mono run (fun v s' h' => wpAny_pure (by obtain ⟨x, u, rfl, z⟩ := h'; exact ⟨x, u, rfl, z⟩)) fun _ _ h' => h')
  have bd : wpAny (model X.prog X.w) A (callSpecialIfBoundBy? (fun g first => match reprUnder? g, first with
    | some twin, [self] => call twin [self, rawInt base]
    | _, _ => call g (first ++ [])) (.ref a) (Str.ofString "__repr__")) (fun v s' => ∃ x u, v = some (.str x u) ∧ Q x s') E s := by
    simp only [callSpecialIfBoundBy?, bindSpecialIfBound?]
    refine wpAny_holding (wpAny_bind (wpAny_bind (wpAny_bind (J.type.here ((PySem.W.looks_findIn I.kIn hs).here ?_)))))
    refine wpAny_bind (wpAny_askSetting (wpAny_ite ?_))
    split
    · exact wpAny_bind ((PySem.W.bind_fn I.kIn _ (beq_iff_eq.mp hf)).here (wpAny_pure (by exact fin)))
    · exact wpAny_tryCatch (wpAny_bind ((PySem.W.bind_fn I.kIn _ (beq_iff_eq.mp hf)).here (wpAny_pure (by exact fin))))
  refine wpAny_bind (wpAny_mono bd (fun v s' hv => ?_) fun _ _ e => e)
  obtain ⟨x, u, rfl, z⟩ := hv
  refine wpAny_bind (wpAny_isInstance (typeIs_str _ _ _) isSubtype_str_str ?_)
  rw [if_pos rfl]
  exact wpAny_pure ⟨_, _, rfl, z⟩
end
end GR
namespace Dt
open PySem PySem.Spec PyProof.Rows L2 Ly GR
mutual
inductive Shw (ρ : D → Str → Prop) (k : Nat) : Nat → D → Str → Prop
  | int {n : Nat} {i : Int} (h : i.natAbs.log2 < 1920) : Shw ρ k n (.int i) (toString i)
  | str {n : Nat} {x : Str} (h : (reprText x).length ≤ sizeLine) : Shw ρ k n (.str x) (reprText x)
  | bl {n : Nat} {b : Bool} : Shw ρ k n (.bl b) (if b then "True" else "False")
  | non {n : Nat} : Shw ρ k n .non "None"
  | obj {n : Nat} {C : Addr} {fs : List (Str × D)} {t : Str} (h : ρ (.obj C fs) t) (hn : k ≤ n) : Shw ρ k n (.obj C fs) t
  | lst {n : Nat} {ds : List D} {ts : List Str} (h : Shws ρ k n ds ts) : Shw ρ k (n + 1) (.lst ds) (listText ts)
  | tup {n : Nat} {ds : List D} {ts : List Str} (h : Shws ρ k n ds ts) : Shw ρ k (n + 1) (.tup ds) (tupleText ts)
inductive Shws (ρ : D → Str → Prop) (k : Nat) : Nat → List D → List Str → Prop
  | nil {n : Nat} : Shws ρ k n [] []
  | cons {n : Nat} {d : D} {t : Str} {ds : List D} {ts : List Str} (h : Shw ρ k n d t) (g : Shws ρ k n ds ts) : Shws ρ k n (d :: ds) (t :: ts)
end
theorem ShVs.up {X : Cx} {j : Nat} {pins : List (Addr × Obj)} {σ : L2.St} {as as' : List Addr} {H0 : Hp} (ha : ∀ b ∈ as, b ∈ as') : ∀ {l : List V} {ts : List Str}, ShVs X j pins σ as H0 l ts → ShVs X j pins σ as' H0 l ts
  | _, _, .nil => .nil
  | _, _, .cons h t => .cons (h.up (Nat.le_refl _) ha (.refl H0)) (ShVs.up ha t)
def Und (H0 : Hp) (as : List Addr) (n : Nat) : Prop := ∀ b ∈ as, ∃ d', At H0 (.ref b) d' ∧ sizeOf d' ≤ n
theorem Und.nil {H0 : Hp} {n : Nat} : Und H0 [] n := fun _ h => nomatch h
def isSeqD : D → Bool
  | .lst _ => true
  | .tup _ => true
  | _ => false
def rShow (ρ : D → Str → Prop) (k j : Nat) : List V → Hp → VK → Prop := fun xs H Q => ∃ (a : Addr) (d : D) (t : Str) (H0 : Hp), xs = [.ref a] ∧ Same H0 H ∧ At H0 (.ref a) d ∧ isSeqD d = true ∧ Shw ρ k j d t ∧ t.length ≤ sizeLine ∧ ∀ H', Same H H' → Q (.str t) H'
section
variable {π : Po} {δ : List Rv} {kk : Rv → Prop} {ρ : D → Str → Prop} {k j : Nat}
theorem cut_same {X : Xs} {H : Hp} : Same (cut X H) H := fun a o e => (of_cut e).2
end
theorem clg_W {W : Wd} {k : Nat} {x : Str} {st : Stmt} {N ps : List Str} {pt : Bool} {B : List Rv → (Rv → Prop) → Prop} (g : GF W.K W.mg x st) (S : FnScope N ps (defScope st)) (hb : BindOk x x st ps) (hB : ∀ rs k, B rs k → rs.length = ps.length) (hbody : BodyG W k N x st (spW pt B)) : ClG W (k + 1) x (spW pt B) :=
  clg_of g S hb (len_W hB) hbody
theorem body_G {W : Wd} {k : Nat} {N : List Str} {qual : Str} {st : Stmt} {pt : Bool} {B : List Rv → (Rv → Prop) → Prop} {n m : Nat} (hm : N.length - n = m) (hB : ∀ rs k, B rs k → rs.length = n)
    (hb : ∀ (f : Addr) (cdv : Value) (A : Around) (outer : List Env) (s : Shared) (H : Hp) (E : XK), Room k (A.deeper (envOfC qual (defScope st) s.heap.objs.size f cdv)) → (A.deeper (envOfC qual (defScope st) s.heap.objs.size f cdv)).guards = some [] →
      ∃ t, PSs (cxOf CX0 W.P W.w W.K W.mg W.base N qual (defScope st) f cdv A outer s H E).nox (defBody st) t ∧ ∀ (π : Po) (rs : List Rv) (kr : Rv → Prop), π.pot.isSome = pt → B rs kr → Ws π t { nx := fun _ => kr (.d .non), rt := kr } (rs ++ uns m)) :
    BodyG W k N qual st (spW pt B) := fun f cdv A outer s H vs Q E hr hg h => by
  obtain ⟨t, ps, w⟩ := hb f cdv A outer s H E hr hg
  exact ⟨t, ps, run_body hm hB w h⟩
end Dt
namespace Ly
open PySem PySem.Spec PyProof.Rows L2
/-- how many different ones -/
def nd (xs : List Str) : Nat := xs.eraseDups.length
section
variable {prog : Program} {w : World} {A : Around} {R : Result → Shared → Prop} {I : Addr} {fp wr : List Addr} {G : Array GenState → Array GenState → Prop} {n : Nat} {P : Nat → Value → Prop} {St : Nat → Shared → Prop}
/-- the set S holds the first i of xs -/
def HoldsS (prog : Program) (w : World) (S : Addr) (xs : List Str) (i : Nat) (h : Heap) : Prop := h.SetOf (PySem.strKind prog w) S (fun k => (xs.take i).any (· == k)) (nd (xs.take i))
theorem HoldsS.at {S : Addr} {xs : List Str} {i : Nat} {h h' : Heap} (e : ∀ o, h.get? S = some o → h'.get? S = some o) (x : HoldsS prog w S xs i h) : HoldsS prog w S xs i h' := by
  obtain ⟨o, es, ep, t, ho, rest⟩ := x
  exact ⟨o, es, ep, t, e o ho, rest⟩
end
def tLenSetS (K : PySem.W.Frag) (ta : TE) : TE := fun σ H Q => ta σ H fun x H1 => ∃ l, ∃ xs : List Str, x = .ref l ∧ (SqL K H1 l (xs.map V.str) ∨ SqT K H1 l (xs.map V.str)) ∧ xs.length + 1 < scanBound ∧ Q (.int (nd xs)) H1
end Ly
namespace Ly
open PySem PySem.Spec PyProof.Rows L2
end Ly
namespace Ly
open PySem PySem.Spec PyProof.Rows L2
end Ly
namespace Ly
open PySem PySem.Spec PyProof.Rows L2
end Ly
namespace L2
open PySem PySem.Spec PyProof.Rows
section
variable {X : Cx}
def rLenR : List V → Hp → VK → Prop := fun xs H Q => ∃ a kvs, xs = [V.ref a] ∧ Rd H a (.dK kvs) ∧ Q (.int kvs.length) H
def rListR : List V → Hp → VK → Prop := fun xs H Q => ∃ (a : Addr) (kvs : List (Key × V)), xs = [.ref a] ∧ Rd H a (.dK kvs) ∧ ∀ p, H p = none → Q (.ref p) (upd H p (.lst (kvs.map fun kv => kV kv.1)))
def rStrS : List V → Hp → VK → Prop := fun xs H Q => ∃ a, xs = [.str a] ∧ Q (.str a) H
/-- list(d.values()) -/
def tListVals (td : TE) : TE := fun σ H Q => td σ H fun x H1 => ∃ (a : Addr) (kvs : List (Key × V)), x = .ref a ∧ Rd H1 a (.dK kvs) ∧ ∀ p, H1 p = none → Q (.ref p) (upd H1 p (.lst (kvs.map (·.2))))
variable {o : Expr} {p pos apos mpos : Pos} {td : TE}
end
end L2
namespace Dt
open PySem PySem.Spec PyProof.Rows L2 Ly
section
variable {π : Po} {δ : List Rv} {k : Rv → Prop} {ta tb te td tx : TE} {t : TA} {K : PySem.W.Frag}
theorem wcb_lenD {a : Rv} {kd : List (Key × D)} (hf : a.kd = some kd) (q : k (.d (.int kd.length))) : WCb π rLenR [a] k := fun X H0 H xs Q o0 o k0 ra h => by
  match xs, ra with
  | [x], ⟨ra, _⟩ =>
    obtain ⟨p, kv, rfl, e, ek, t⟩ := ra.kd hf
    have hl : kv.length = kd.length := by simpa using congrArg List.length ek
    refine ⟨p, kv, rfl, e, ?_⟩
    rw [hl]
    exact h _ (.d (.int kd.length)) H o.kp (At.int _) q
theorem wcb_listD {a : Rv} {kd : List (Key × D)} (hf : a.kd = some kd) (q : k (.new (.lst (kd.map fun p => dKey p.1)))) : WCb π rListR [a] k := fun X H0 H xs Q o0 o k0 ra h => by
  match xs, ra with
  | [x], ⟨ra, _⟩ =>
    obtain ⟨p, kv, rfl, e, ek, t⟩ := ra.kd hf
    refine ⟨p, kv, rfl, e, fun p' np => new_lst o k0 o0 ?_ h q p' np⟩
    have e1 : (kv.map fun p => kV p.1) = (kd.map (·.1)).map kV := by rw [← ek, List.map_map]; rfl
    have e2 : (kd.map fun p => dKey p.1) = (kd.map (·.1)).map dKey := by rw [List.map_map]; rfl
    rw [e1, e2]
    exact keys_at _
theorem wcb_strS {s : Str} (q : k (.d (.str s))) : WCb π rStrS [.d (.str s)] k := fun X H0 H xs Q o0 o k0 ra h => by
  match xs, ra with
  | [x], ⟨ra, _⟩ => cases ra; exact ⟨s, rfl, h _ (.d (.str s)) H o.kp (At.str _) q⟩
theorem w_listVals (q : Wp π td δ fun r => ∃ kd, r.kd = some kd ∧ k (.new (.lst (kd.map (·.2))))) : Wp π (tListVals td) δ k := fun X H σ Q o e h => by
  refine q X H σ _ o e fun v r H1 k1 a w => ?_
  obtain ⟨kd, hf, kk⟩ := w
  obtain ⟨p, kv, rfl, e1, ek, t⟩ := a.kd hf
  exact ⟨p, kv, rfl, e1, fun p' np => new_lst (H0 := H) (o.keep k1) k1 o t (fun v z H' k2 => h v z H' (k1.trans k2)) kk p' np⟩
def KitD (K : PySem.W.Frag) (x : D) (us : List Value) (b : Bool) : Prop := ∃ t, (∀ (X : Xs) (H : Hp) (v : V), At (cut X H) v x → TyX K H v t) ∧ PySem.W.kitAny K t us = some b
theorem w_isi2 {n1 n2 : String} (q : Wp π tx δ fun r => ∃ x b, r.fz = some x ∧ KitD K x [.type n1, .type n2] b ∧ k (.d (.bl b))) :
    Wp π (tCB (rIsiT K) (tCons tx (tCons (tTup (tCons (tC (.ty n1)) (tCons (tC (.ty n2)) tNil))) tNil))) δ k := fun X H σ Q o e h => by
  refine q X H σ _ o e fun v r H1 k1 a w => ?_
  obtain ⟨x, b, hf, ⟨t, ty, hk⟩, kk⟩ := w
  have o1 := o.keep k1
  have a1 := a.fz o hf
  refine ⟨show 2 ≤ sizeLine by decide, fun p np => ?_⟩
  exact ⟨v, p, [.ty n1, .ty n2], t, [.type n1, .type n2], b, rfl, upd_same, .cons (.ty n1) (.cons (.ty n2) .nil), ty X _ v (a1.mono (up_mo' np)), hk, h _ (.d (.bl b)) _ ((k1.trans (o1.kp.add o1 np))) (At.bl b) kk⟩
/-- len(set(texts)) -/
theorem w_lenSet (q : Wp π ta δ fun r => ∃ ss : List Str, (r.li = some (ss.map D.str) ∨ r = .d (.tup (ss.map D.str))) ∧ ss.length < 4000 ∧ k (.d (.int (nd ss)))) : Wp π (tLenSetS K ta) δ k := fun X H σ Q o e h => by
  refine q X H σ _ o e fun v r H1 k1 a w => ?_
  obtain ⟨ss, hf, hl, kk⟩ := w
  rcases hf with hf | rfl
  · obtain ⟨p, vs, rfl, e1, t⟩ := a.li hf
    have z := ats_strs t
    subst z
    exact ⟨p, ss, rfl, .inl (SqL.of e1), Nat.lt_of_le_of_lt (show ss.length + 1 ≤ 4000 by omega) (by decide), h _ (.d (.int (nd ss))) H1 k1 (At.int _) kk⟩
  · cases a with
    | tup e1 t =>
      have z := ats_strs t
      subst z
      exact ⟨_, ss, rfl, .inr (SqT.of (of_cut e1).2), Nat.lt_of_le_of_lt (show ss.length + 1 ≤ 4000 by omega) (by decide), h _ (.d (.int (nd ss))) H1 k1 (At.int _) kk⟩
/-- a display of a dict -/
def RPs (π : Po) (X : Xs) (H0 H : Hp) : List (Rv × Rv) → List (V × V) → Prop
  | [], [] => True
  | (r, s) :: rs, (v, w) :: vs => RAt π X H0 H r v ∧ RAt π X H0 H s w ∧ RPs π X H0 H rs vs
  | _, _ => False
theorem RPs.base {X : Xs} {H0 H1 H : Hp} (o0 : Ok π X H0) (k : Kp π H0 H1) : ∀ {rs : List (Rv × Rv)} {vs : List (V × V)}, RPs π X H1 H rs vs → RPs π X H0 H rs vs
  | [], [], _ => trivial
  | _ :: _, _ :: _, ⟨a, b, c⟩ => ⟨a.base o0 k, b.base o0 k, RPs.base o0 k c⟩
  | [], _ :: _, a => a.elim
  | _ :: _, [], a => a.elim
end
end Dt
namespace Ly
open PySem PySem.Spec PyProof.Rows L2
def lowB (c : Nat) : Bool := decide (97 ≤ c) && decide (c ≤ 122)
def uppB (c : Nat) : Bool := decide (65 ≤ c) && decide (c ≤ 90)
theorem sg_alpha : ∀ c : Fin 128, Unicode.isAlpha c.val = (lowB c.val || uppB c.val) := by decide +kernel
theorem sg_lower : ∀ c : Fin 128, Unicode.isLower c.val = lowB c.val := by decide +kernel
theorem sg_upper : ∀ c : Fin 128, (Unicode.isUpper c.val || Unicode.isTitle c.val) = uppB c.val := by decide +kernel
theorem tx_ascii (x : Str) : Txt.isascii x = x.cps.toList.all (fun c => decide (c < 128)) := by
  unfold Txt.isascii
  rw [← Array.all_toList]
theorem tx_alpha (x : Str) : Txt.isalpha x = (decide (x.length > 0) && x.cps.toList.all Unicode.isAlpha) := by
  unfold Txt.isalpha
  rw [← Array.all_toList]
theorem tx_lower (x : Str) : Txt.islower x = (x.cps.toList.any Unicode.isLower && !x.cps.toList.any (fun c => Unicode.isUpper c || Unicode.isTitle c)) := by
  unfold Txt.islower
  rw [← Array.any_toList, ← Array.any_toList]
theorem str_len (x : Str) : x.length = x.cps.toList.length := (Array.length_toList ..).symm
theorem low_upp {c : Nat} (h : lowB c = true) : uppB c = false := by
  unfold lowB at h
  unfold uppB
  rw [Bool.and_eq_true, decide_eq_true_eq, decide_eq_true_eq] at h
  rw [decide_eq_false (show ¬ c ≤ 90 by omega), Bool.and_false]
theorem name_signs (x : Str) : (Txt.isascii x && (Txt.isalpha x && Txt.islower x)) = (decide (1 ≤ x.length) && x.cps.toList.all lowB) := by
  rw [tx_ascii, tx_alpha, tx_lower, str_len]
  cases he : x.cps.toList with
  | nil => rfl
  | cons c0 cs =>
    rw [show decide ((c0 :: cs).length > 0) = true from decide_eq_true (Nat.succ_pos _), show decide (1 ≤ (c0 :: cs).length) = true from decide_eq_true (Nat.succ_pos _), Bool.true_and, Bool.true_and]
    by_cases h : (c0 :: cs).all lowB = true
    · rw [h]
      have hm := List.all_eq_true.mp h
      have lt : ∀ c ∈ c0 :: cs, c < 128 := fun c m => by
        have z := hm c m
        unfold lowB at z
        rw [Bool.and_eq_true, decide_eq_true_eq, decide_eq_true_eq] at z
        omega
      have e1 : (c0 :: cs).all (fun c => decide (c < 128)) = true := List.all_eq_true.mpr fun c m => decide_eq_true (lt c m)
      have e2 : (c0 :: cs).all Unicode.isAlpha = true := List.all_eq_true.mpr fun c m => by
        rw [sg_alpha ⟨c, lt c m⟩, hm c m]
        rfl
      have e3 : (c0 :: cs).any Unicode.isLower = true := List.any_eq_true.mpr ⟨c0, List.mem_cons_self, by
        rw [sg_lower ⟨c0, lt c0 List.mem_cons_self⟩]
        exact hm c0 List.mem_cons_self⟩
      have e4 : (c0 :: cs).any (fun c => Unicode.isUpper c || Unicode.isTitle c) = false := by
        rw [Bool.eq_false_iff]
        intro z
        obtain ⟨c, m, hc⟩ := List.any_eq_true.mp z
        rw [sg_upper ⟨c, lt c m⟩, low_upp (hm c m)] at hc
        cases hc
      rw [e1, e2, e3, e4]
      rfl
    · rw [Bool.eq_false_iff.mpr h]
      rw [Bool.eq_false_iff]
      intro z
      rw [Bool.and_eq_true, Bool.and_eq_true, Bool.and_eq_true] at z
      obtain ⟨z1, z2, z3, z4⟩ := z
      refine h (List.all_eq_true.mpr fun c m => ?_)
      have l : c < 128 := by simpa using List.all_eq_true.mp z1 c m
      have a := List.all_eq_true.mp z2 c m
      rw [sg_alpha ⟨c, l⟩] at a
      have u : uppB c = false := by
        rw [Bool.eq_false_iff]
        intro q
        have : (c0 :: cs).any (fun c => Unicode.isUpper c || Unicode.isTitle c) = true := List.any_eq_true.mpr ⟨c, m, by
          rw [sg_upper ⟨c, l⟩]
          exact q⟩
        rw [this] at z4
        cases z4
      rw [u, Bool.or_false] at a
      exact a
section
variable {K : PySem.W.Frag} {σ : L2.St} {H : Hp} {Q : VK} {x : Str} {n : Nat}
theorem i_sgn {g : Str → Bool} (h : σ[n]? = some (some (.str x))) (q : Q (.bl (g x)) H) : tBM0 K "str" (fun x xs H Q => ∃ a, x = V.str a ∧ xs = [] ∧ True ∧ Q (V.bl (g a)) H) (tVar n) σ H Q :=
  ⟨.str x, h, rfl, x, rfl, rfl, trivial, q⟩
/-- isascii and isalpha and islower of a name -/
theorem i_name (h : σ[n]? = some (some (.str x))) (q : Q (.bl (decide (1 ≤ x.length) && x.cps.toList.all lowB)) H) :
    tAndV (tBM0 K "str" (fun x xs H Q => ∃ a, x = V.str a ∧ xs = [] ∧ True ∧ Q (V.bl (Txt.isascii a)) H) (tVar n))
      (tAndV (tBM0 K "str" (fun x xs H Q => ∃ a, x = V.str a ∧ xs = [] ∧ True ∧ Q (V.bl (Txt.isalpha a)) H) (tVar n))
        (tBM0 K "str" (fun x xs H Q => ∃ a, x = V.str a ∧ xs = [] ∧ True ∧ Q (V.bl (Txt.islower a)) H) (tVar n))) σ H Q := by
  rw [← name_signs] at q
  refine i_andV ?_
  refine i_sgn h ⟨_, rfl, ?_⟩
  cases h1 : Txt.isascii x with
  | false =>
    rw [h1] at q
    exact q
  | true =>
    rw [h1] at q
    rw [if_pos rfl]
    refine i_andV ?_
    refine i_sgn h ⟨_, rfl, ?_⟩
    cases h2 : Txt.isalpha x with
    | false =>
      rw [h2] at q
      exact q
    | true =>
      rw [h2] at q
      rw [if_pos rfl]
      exact i_sgn h q
end
end Ly
namespace Dt
open PySem PySem.Spec PyProof.Rows L2 Ly
section
variable {π : Po} {δ : List Rv} {k : Rv → Prop} {K : PySem.W.Frag} {n : Nat}
theorem w_name {x : Str} (h : δ[n]? = some (.d (.str x))) (q : k (.d (.bl (decide (1 ≤ x.length) && x.cps.toList.all lowB)))) :
    Wp π (tAndV (tBM0 K "str" (fun x xs H Q => ∃ a, x = V.str a ∧ xs = [] ∧ True ∧ Q (V.bl (Txt.isascii a)) H) (tVar n))
      (tAndV (tBM0 K "str" (fun x xs H Q => ∃ a, x = V.str a ∧ xs = [] ∧ True ∧ Q (V.bl (Txt.isalpha a)) H) (tVar n))
        (tBM0 K "str" (fun x xs H Q => ∃ a, x = V.str a ∧ xs = [] ∧ True ∧ Q (V.bl (Txt.islower a)) H) (tVar n)))) δ k := fun X H σ Q o e hq => by
  obtain ⟨v, e1, a⟩ := e.get h (fun z => by cases z)
  cases a
  exact i_name e1 (hq _ (.d (.bl _)) H o.kp (At.bl _) q)
theorem body_or {W : Wd} {k : Nat} {N : List Str} {qual : Str} {st : Stmt} {pt : Bool} {B B1 B2 : List Rv → (Rv → Prop) → Prop} (h : ∀ rs k, B rs k → B1 rs k ∨ B2 rs k) (h1 : BodyOk W k N qual st (spW pt B1)) (h2 : BodyOk W k N qual st (spW pt B2)) : BodyOk W k N qual st (spW pt B) := fun f cdv A outer s H vs Q E hr hsp => by
  obtain ⟨π, X, rs, kk, hp, ok, ha, at_, b, q⟩ := hsp
  rcases h rs kk b with b | b
  · exact h1 f cdv A outer s H vs Q E hr ⟨π, X, rs, kk, hp, ok, ha, at_, b, q⟩
  · exact h2 f cdv A outer s H vs Q E hr ⟨π, X, rs, kk, hp, ok, ha, at_, b, q⟩
theorem w_chain {ta tb tc : TE} {r r' : R2} (q : Wp π ta δ fun a => Wp π tb δ fun b => WOp π r a b fun z => ∃ c, z = .d (.bl c) ∧ if c = true then Wp π tc δ fun e => WOp π r' b e k else k (.d (.bl false))) : Wp π (tChain r r' ta tb tc) δ k := fun X H σ Q o e h => by
  refine q X H σ _ o e fun x a H1 k1 r1 wb => ?_
  have o1 := o.keep k1
  have e1 := e.keep o k1
  refine wb X H1 σ _ o1 e1 fun y b H2 k2 r2 w => ?_
  have o2 := o1.keep k2
  have e2 := e1.keep o1 k2
  have k02 := k1.trans k2
  have rb := r2.base o k1
  refine w X H H2 x y _ o o2 k02 (r1.keep o1 k1 o k2) rb fun z zr H3 k3 r3 w3 => ?_
  obtain ⟨c, rfl, w3⟩ := w3
  cases r3
  have o3 := o2.keep k3
  refine ⟨c, rfl, ?_⟩
  split at w3
  · rw [if_pos ‹_›]
    refine w3 X H3 σ _ o3 (e2.keep o2 k3) fun v er H4 k4 r4 w4 => ?_
    have k04 := (k02.trans k3).trans k4
    exact w4 X H H4 y v Q o (o3.keep k4) k04 (rb.keep o2 k02 o (k3.trans k4)) (r4.base o (k02.trans k3)) fun u ur H5 k5 r5 kz => h u ur H5 (k04.trans k5) r5 kz
  · rw [if_neg ‹_›]
    exact h (.bl false) (.d (.bl false)) H3 (k02.trans k3) (At.bl false) w3
/-- a name's signs -/
def nmB (x : Str) : Bool := decide (x.length ≤ 8) && (decide (1 ≤ x.length) && x.cps.toList.all lowB)
def isInt : D → Bool
  | .int _ => true
  | _ => false
end
end Dt
namespace Dt
open PySem PySem.Spec PyProof.Rows L2 Ly
section
variable {π : Po} {δ : List Rv} {k : Ke} {t : TS}
theorem ws_cut {I : List Rv → Prop} (h : Ws π t { k with nx := I } δ) (g : ∀ δ', I δ' → k.nx δ') : Ws π t k δ := fun H0 X0 L X H σ D iv ev ow en =>
  h H0 X0 L X H σ D iv ev ow ⟨fun X' H' σ' δ' a b c d z => en.nx X' H' σ' δ' a b c d (g δ' z), en.bk, en.ct, en.rt, en.xc, en.hz⟩
end
def ps0 : Stmt := .Pass ⟨0, 0, 0, 0⟩
section
variable {π : Po} {δ : List Rv} {k : Ke} {t : TA} {i j : Nat}
theorem ws_par (q : WpA π t δ fun rs => ∃ x y, rs = [.d x, .d y] ∧ k.nx ((δ.set i (.d x)).set j (.d y))) : Ws π (tPar i j t) k δ := fun H0 X0 L X H σ D iv ev ow en => by
  refine q X H σ _ iv.ok ev fun vs rs H1 k1 a w => ?_
  obtain ⟨x, y, rfl, kk⟩ := w
  have iv1 := iv.keep k1
  have ev1 := ev.keep iv.ok k1
  match vs, a with
  | [v1, v2], ⟨a1, a2, _⟩ =>
    have a1 : At (cut X H1) v1 x := a1
    have a2 : At (cut X H1) v2 y := a2
    refine ⟨v1, v2, rfl, ?_⟩
    exact we_name (kn := fun δ' => δ' = δ.set i (.d x)) (i := i) rfl X H1 σ v1 (fun σ1 H' => D.nx (σ1.set j (some v2)) H') iv1.ok ev1 a1 fun σ1 δ1 ev2 s1 e1 =>
      we_name (kn := fun δ' => δ' = δ1.set j (.d y)) (i := j) rfl X H1 σ1 v2 (fun σ2 H' => D.nx σ2 H') iv1.ok ev2 a2 fun σ2 δ2 ev3 s2 e2 =>
        en.nx X H1 σ2 δ2 iv1 ev3 (fun l r p h1 h2 => ow l r p (s1 l r p (s2 l r p h1 h2) h2) h2) (iv.ok.fr k1) (by rw [e2, e1]; exact kk)
end
def Rv.an : Rv → Option D
  | .d x => some x
  | .new x => some x
  | .own _ x => some x
  | _ => none
theorem AtO.at {X : Xs} {H : Hp} {p : Addr} {x : D} (a : AtO X H p x) : At H (.ref p) x := by
  cases x with
  | lst ds => obtain ⟨vs, e, t⟩ := a; exact .lst e (t.mono cut_sm)
  | dct kd => obtain ⟨kv, e, e2, t⟩ := a; exact .dct (.inl e) e2 (t.mono cut_sm)
  | dcT kd => obtain ⟨kv, e, e2, t⟩ := a; exact .dcT (.inl e) e2 (t.mono cut_sm)
  | obj C fd => obtain ⟨dx, fs, e, e2, t⟩ := a; exact .obj e e2 (t.mono cut_sm)
  | _ => exact a.elim
theorem RAt.an {π : Po} {X : Xs} {H0 H : Hp} {r : Rv} {v : V} {x : D} (a : RAt π X H0 H r v) (h : r.an = some x) : At H v x := by
  cases r with
  | d y => cases h; exact At.mono cut_sm a
  | new y => cases h; obtain ⟨p, rfl, _, t⟩ := a; exact t.at
  | own q y => cases h; obtain ⟨rfl, _, _, t⟩ := a; exact t.at
  | _ => cases h
def ans : List Rv → Option (List D)
  | [] => some []
  | r :: rs => match r.an, ans rs with
    | some x, some xs => some (x :: xs)
    | _, _ => none
theorem RAts.ans {π : Po} {X : Xs} {H0 H : Hp} : ∀ {rs : List Rv} {vs : List V} {ds : List D}, RAts π X H0 H rs vs → ans rs = some ds → Ats H vs ds
  | [], [], _, _, h => by cases h; exact .nil
  | [], _ :: _, _, a, _ => a.elim
  | _ :: _, [], _, a, _ => a.elim
  | r :: rs, v :: vs, ds, ⟨a, b⟩, h => by
    unfold Dt.ans at h
    cases hr : r.an with
    | none => rw [hr] at h; cases h
    | some x =>
      cases hs : Dt.ans rs with
      | none => rw [hr, hs] at h; cases h
      | some xs =>
        rw [hr, hs] at h
        cases h
        exact .cons (a.an hr) (b.ans hs)
section
variable {π : Po} {δ : List Rv} {kk : Rv → Prop} {t : TA} {ρ : D → Str → Prop} {k j : Nat}
theorem w_reprL (q : WpA π t δ fun rs => ∃ ds tx, ans rs = some ds ∧ ds.length ≤ 4000 ∧ Shw ρ k j (.lst ds) tx ∧ tx.length ≤ sizeLine ∧ kk (.d (.str tx))) : Wp π (tCB (rShow ρ k j) (tCons (tLst t) tNil)) δ kk := fun X H σ Q o e h => by
  refine q X H σ _ o e fun vs rs H1 k1 a w => ?_
  obtain ⟨ds, tx, ha, hl, hw, hz, kq⟩ := w
  have at_ := a.ans ha
  have o1 := o.keep k1
  refine ⟨by rw [at_.length]; exact le_line hl, fun p np => ?_⟩
  have S1 : Same H1 (L2.upd H1 p (.lst vs)) := fun b u e => by rw [upd_ne (ne_of_none e np)]; exact e
  have k2 : Kp π H1 (L2.upd H1 p (.lst vs)) := o1.kp.add o1 np
  refine ⟨p, .lst ds, tx, L2.upd H1 p (.lst vs), rfl, .refl _, .lst upd_same (at_.mono (.of S1)), rfl, hw, hz, fun H' S => ?_⟩
  exact h (.str tx) (.d (.str tx)) H' ((k1.trans k2).trans (Kp.of_same (o1.keep k2) S)) (At.str tx) kq
end
end Dt
namespace Dt
open PySem PySem.Spec PyProof.Rows L2 Ly
theorem ato_keepX {X X' : Xs} {H H' : Hp} {p : Addr} {x : D} (h : ∀ o, H p = some o → H' p = some o) (m : Mo (cut X H) (cut X' H')) (a : AtO X H p x) : AtO X' H' p x := AtC.keep (as := []) (c := .pl x) h m a
end Dt
namespace Ly
open PySem PySem.Spec PyProof.Rows L2
section
open PySem.W PySem.Calls
variable {X : Cx} {k j : Nat} {C : Addr} {x m : Str} {sp : Sp} {T : String}
/-- a method known by FnR -/
structure MtR (W : Wd) (k : Nat) (C : Addr) (m : Str) (sp : Sp) : Prop where
  ex : ∃ f : Addr, Meth W.K C m f ∧ FnR W.P W.w W.K W.mg W.base CX0 k f sp
end
end Ly
namespace Dt
open PySem PySem.Spec PyProof.Rows L2 Ly GR
section
variable {π : Po} {δ : List Rv} {k : Rv → Prop} {ta : TE} {ts : List TE}
theorem w_fmtI (q : Wp π ta δ fun r => ∃ i : Int, r = .d (.int i) ∧ Sz 1900 i ∧ k (.d (.str (It i)))) : Wp π (tFmt ta) δ k := fun X H σ Q o e h => by
  refine q X H σ _ o e fun v r H1 k1 a w => ?_
  obtain ⟨i, rfl, z, kk⟩ := w
  cases a
  exact i_fmt_i z (h _ (.d (.str (It i))) H1 k1 (At.str _) kk)
def WpJ (π : Po) (ts : List TE) (acc : Str) (δ : List Rv) (k : Str → Prop) : Prop := ∀ (X : Xs) (H : Hp) (σ : L2.St) (Q : Str → Hp → Prop), Ok π X H → Ev π X H σ δ → (∀ s H', Kp π H H' → k s → Q s H') → tJs ts acc σ H Q
theorem wj_nil {acc : Str} {k : Str → Prop} (q : k acc) : WpJ π [] acc δ k := fun X H σ Q o e h => h acc H o.kp q
theorem wj_cons {acc : Str} {k : Str → Prop} (q : Wp π ta δ fun r => ∃ y : Str, r = .d (.str y) ∧ (acc ++ y).length ≤ sizeLine ∧ WpJ π ts (acc ++ y) δ k) : WpJ π (ta :: ts) acc δ k := fun X H σ Q o e h => by
  refine q X H σ _ o e fun v r H1 k1 a w => ?_
  obtain ⟨y, rfl, z, w⟩ := w
  cases a
  exact ⟨y, rfl, z, w X H1 σ Q (o.keep k1) (e.keep o k1) fun s H' k2 ks => h s H' (k1.trans k2) ks⟩
theorem w_joined (q : WpJ π ts Str.empty δ fun s => k (.d (.str s))) : Wp π (fun σ H Q => tJs ts Str.empty σ H fun out H1 => Q (.str out) H1) δ k := fun X H σ Q o e h => q X H σ _ o e fun s H' k1 ks => h (.str s) (.d (.str s)) H' k1 (At.str s) ks
end
/-- the text of a fraction's repr -/
def rtx (q : Rat) : Str := Str.empty ++ "Ratio(" ++ It q.num ++ ", " ++ It (q.den : Int) ++ ")"
def bRepr (C : Addr) (rs : List Rv) (k : Rv → Prop) : Prop := ∃ q, rs = [.d (ratQ C q)] ∧ SzQ 1900 q ∧ k (.d (.str (rtx q)))
end Dt
namespace Ly
open PySem PySem.Spec PyProof.Rows L2
end Ly
namespace Dt
open PySem PySem.Spec PyProof.Rows L2 Ly
mutual
inductive Pl : D → PyData → Prop
  | int {i : Int} : Pl (.int i) (.int i)
  | bl {b : Bool} : Pl (.bl b) (.bool b)
  | non : Pl .non .none
  | str {s : Str} : Pl (.str s) (.str s)
  | lst {xs : List D} {ps : List PyData} (h : Pls xs ps) : Pl (.lst xs) (.list ps)
  | tup {xs : List D} {ps : List PyData} (h : Pls xs ps) : Pl (.tup xs) (.tuple ps)
inductive Pls : List D → List PyData → Prop
  | nil : Pls [] []
  | cons {x : D} {p : PyData} {xs : List D} {ps : List PyData} (h : Pl x p) (t : Pls xs ps) : Pls (x :: xs) (p :: ps)
end
mutual
theorem at_dp {K : PySem.W.Frag} {H : Hp} : ∀ {v : V} {d : D} {p : PyData}, At H v d → Pl d p → Dp K H v p
  | _, _, _, a, .int => by cases a; exact .int _
  | _, _, _, a, .bl => by cases a; exact .bl _
  | _, _, _, a, .non => by cases a; exact .non
  | _, _, _, a, .str => by cases a; exact .str _
  | _, _, _, a, .lst h => by cases a with | lst e t => exact .lst (SqL.of e) (ats_dp t h)
  | _, _, _, a, .tup h => by cases a with | tup e t => exact .tup (SqT.of e) (ats_dp t h)
theorem ats_dp {K : PySem.W.Frag} {H : Hp} : ∀ {vs : List V} {ds : List D} {ps : List PyData}, Ats H vs ds → Pls ds ps → DpAll K H vs ps
  | _, _, _, a, .nil => by cases a; exact .nil
  | _, _, _, a, .cons h t => by cases a with | cons a1 t1 => exact .cons (at_dp a1 h) (ats_dp t1 t)
end
section
variable {π : Po} {k : Rv → Prop} {K : PySem.W.Frag}
theorem wop_eqP {a b : Rv} {x y : D} {p q : PyData} (ha : a.an = some x) (hb : b.an = some y) (hp : Pl x p) (hq : Pl y q) (sp : SeqAt.shaped p = true) (sq : SeqAt.shaped q = true) (kk : k (.d (.bl (PyData.eqv p q)))) : WOp π (rEqU K) a b k := fun X H0 H v w Q o0 o k0 ra rb h =>
  .inr ⟨p, q, at_dp (ra.an ha) hp, at_dp (rb.an hb) hq, sp, sq, h _ (.d (.bl _)) H o.kp (At.bl _) kk⟩
theorem wop_neP {a b : Rv} {x y : D} {p q : PyData} (ha : a.an = some x) (hb : b.an = some y) (hp : Pl x p) (hq : Pl y q) (sp : SeqAt.shaped p = true) (sq : SeqAt.shaped q = true) (kk : k (.d (.bl (!PyData.eqv p q)))) : WOp π (rNeU K) a b k := fun X H0 H v w Q o0 o k0 ra rb h =>
  .inr ⟨p, q, at_dp (ra.an ha) hp, at_dp (rb.an hb) hq, sp, sq, h _ (.d (.bl _)) H o.kp (At.bl _) kk⟩
end
end Dt
namespace Ly
open PySem PySem.Spec PyProof.Rows L2
end Ly
namespace Dt
open PySem PySem.Spec PyProof.Rows L2 Ly
theorem RAts.ds {π : Po} {X : Xs} {H0 H : Hp} : ∀ {vs : List V} {ds : List D}, Ats (cut X H) vs ds → RAts π X H0 H (ds.map Rv.d) vs
  | _, _, .nil => trivial
  | _, _, .cons h t => ⟨h, RAts.ds t⟩
theorem RAts.app2 {π : Po} {X : Xs} {H0 H : Hp} : ∀ {rs ss : List Rv} {vs ws : List V}, RAts π X H0 H rs vs → RAts π X H0 H ss ws → RAts π X H0 H (rs ++ ss) (vs ++ ws)
  | [], _, [], _, _, b => b
  | _ :: _, _, _ :: _, _, ⟨a, c⟩, b => ⟨a, c.app2 b⟩
  | [], _, _ :: _, _, a, _ => a.elim
  | _ :: _, _, [], _, a, _ => a.elim
theorem tup_new {π : Po} {X : Xs} {H : Hp} {p : Addr} {vs : List V} {ds : List D} (o : Ok π X H) (hp : H p = none) (a : Ats (cut X H) vs ds) : At (cut X (L2.upd H p (.tup vs))) (.ref p) (.tup ds) :=
  At.tup (cut_of (fun z => o.dom p z hp) upd_same) (a.mono (up_mo' hp))
theorem Ev.part {π : Po} {X : Xs} {H H' : Hp} {σ : L2.St} {δ : List Rv} {p : Addr} (o : Ok π X H) (k : Kp π H H') (n : H p = none) (e : Ev π X H σ δ) : Ev π (plus X p) H' σ δ :=
  ⟨e.len, fun i r o' h1 h2 => (e.at_ i r o' h1 h2).part o k n, e.nd⟩
theorem Ok.part {π : Po} {X : Xs} {H H' : Hp} {p : Addr} (o : Ok π X H) (k : Kp π H H') (h : H' p ≠ Option.none) : Ok π (plus X p) H' := ⟨fun a z => z.elim ((o.keep k).dom a) fun z => by rw [z]; exact h, fun q e => ⟨.inl (o.pot q e).1, k.pot q e⟩⟩
theorem Ok.np {π : Po} {X : Xs} {H : Hp} {p : Addr} (o : Ok π X H) (n : H p = Option.none) : ¬ Mu π p := fun z => o.dom p (o.pot p z).1 n
/-- .. and what is there once the new thing has got other contents -/
theorem Kp.put {π : Po} {X : Xs} {H H1 : Hp} {p : Addr} {u w : HO} (o : Ok π X H) (n : H p = none) (k : Kp π (L2.upd H p u) H1) (hu : Nco (some u) := by first | exact nco_dK | exact nco_lst | exact nco_tup) : Kp π H (L2.upd H1 p w) := by
  refine ⟨fun a x na e => ?_, fun q e => ?_⟩
  · have hp : a ≠ p := ne_of_none e n
    rw [upd_ne hp]
    exact k.keep a x na (by rw [upd_ne hp]; exact e)
  · have h1 := k.keep p _ (o.np n) upd_same
    exact (k.pot q e).upd (fun z => o.np n (z ▸ e)) (by rw [h1]; exact hu)
end Dt
namespace Ly
open PySem PySem.Spec PyProof.Rows L2
end Ly
namespace Dt
open PySem PySem.Spec PyProof.Rows L2 Ly
end Dt
namespace Ly
open PySem PySem.Spec PyProof.Rows L2
end Ly
namespace Dt
open PySem PySem.Spec PyProof.Rows L2 Ly
end Dt
namespace Ly
open PySem PySem.Spec PyProof.Rows L2
theorem kbn_ofN {K : PySem.W.Frag} {x qual : Str} {st : Stmt} {f : Addr} {fd : FuncData} {ps ks : List Str} {n : Nat} {g : {α : Type} → List α → List α → List α} (F : FunD K x qual (defArgs st) (defBody st) (defScope st) [] [] f fd)
    (hrel : ∀ {vs zs : List V} {us ws : List Value}, Vals vs us → Vals zs ws → Vals (g vs zs) (g us ws))
    (h : ∀ (kV doc pm : Value) (an : Option Addr) (cdv ct : Value) (us ws : List Value), us.length = n → ws.length = ks.length →
      bindArgs (PySem.W.fnOf x qual (defArgs st) (defBody st) (defScope st) .none kV doc pm an cdv ct) ⟨us, ks.zip ws⟩ = pure (ps.zip (g us ws))) : KBn K fd ps n ks g g := by
  obtain ⟨oc, od, dV, kV, doc, pm, an, cdv, ct, osl, rfl, lk, hcd, hD, hK⟩ := F.ex
  rcases hD with ⟨_, rfl⟩ | ⟨e, _⟩
  · exact ⟨fun s us ws _ l1 l2 => .of_eq (h kV doc pm an cdv ct us ws l1 l2), fun r1 r2 => hrel r1 r2⟩
  · exact absurd rfl e
end Ly
namespace Ly
open PySem PySem.Spec PyProof.Rows L2
end Ly
namespace Dt
open PySem PySem.Spec PyProof.Rows L2 Ly
end Dt
namespace Ly
open PySem PySem.Spec PyProof.Rows L2
end Ly
namespace Ly
open PySem PySem.Spec PyProof.Rows L2
/-- the making in a raise: the exception itself is let go, its dict stands -/
def rMkR (H0 : Hp) (C : Addr) (n : Nat) (sp : Sp) (zs : List V) : List V → Hp → XK → Prop := fun vs H Q => vs.length = n ∧ n ≤ 9 ∧ zs = [] ∧ (∀ a, H a = none → H0 a = none) ∧ ∀ a, H a = none → sp (gRv (.ref a :: vs) zs) (upd H a (exo a C none))
  (fun v H2 => v = .non ∧ ((∃ (d : Addr) (fs : List (Str × V)), H2 a = some (exo a C (some d)) ∧ H2 d = some (exd d fs) ∧ H d = none ∧ Q (.ref C) (some d) (upd (del H2 a) d (.xd fs))) ∨ (H2 a = some (exo a C none) ∧ Q (.ref C) none (delH H2 a)))) E0
section
variable {X : Cx} {k j n : Nat} {C : Addr} {x : Str} {sp : Sp} {p pos : Pos} {e : Expr} {es : List Expr} {t : TA}
theorem run_mkr {pins : List (Addr × Obj)} {σ : L2.St} {H : Hp} {s : Shared} {Q : XK} {us : List Value} {vs : List V} (hx : X.ex = []) (tyC : PySem.W.typeIn X.K (.ref C) = some (.type "type")) (M : XMak ⟨X.prog, X.w, X.K, X.mg, X.base⟩ k x C n [] sp) (hr : Room (k + 1) X.A) (I : Inv X pins σ H s) (r : Vals vs us) (h : rMkR X.H_0 C n sp [] vs H Q) :
    wpAny (model X.prog X.w) X.A (call (.ref C) us) (MkP X pins σ Q) X.xe s := by
  obtain ⟨f, fd, ps, iC, tI, F, hb⟩ := M.ex
  obtain ⟨B, newId, initId, bmB, G⟩ := M.xk.ex
  obtain ⟨l1, l9, _, h0, hq⟩ := h
  obtain ⟨hp, g, dr, tk, os⟩ := s
  obtain ⟨nm, N, q, bs, bm, hdct, sn, sub, ab, col, dd, k0, k1, k2, k3, k5, hC, hT⟩ := PySem.W.excInit_of I.kIn G.xi
  have hsz : hp.objs.size ≤ hp.objs.size + 1 := Nat.le_succ _
  have hn : H (hp.objs.size + 1) = none := I.hok.fresh hsz
  have hq2 := hq (hp.objs.size + 1) hn
  have kk : ∀ b o, hp.get? b = some o → ((hp.push (PySem.W.kdv_tup us)).push (PySem.HandSPX.excO C hp.objs.size)).get? b = some o := fun b o z => Heap.get?_push_of_some _ (Heap.get?_push_of_some _ z)
  have hget : ((hp.push (PySem.W.kdv_tup us)).push (PySem.HandSPX.excO C hp.objs.size)).get? (hp.objs.size + 1) = some (PySem.HandSPX.excO C hp.objs.size) := by heap_get
  have I2 : Inv X pins σ (upd H (hp.objs.size + 1) (exo (hp.objs.size + 1) C none)) ⟨(hp.push (PySem.W.kdv_tup us)).push (PySem.HandSPX.excO C hp.objs.size), g, dr, tk, os⟩ :=
    I.laid (t' := tk) (o := exo (hp.objs.size + 1) C none) kk hsz (exo_ok hget)
  have r1 : Vals (V.ref (hp.objs.size + 1) :: vs) (Value.ref (hp.objs.size + 1) :: us) := .cons rfl r
  have r2 := hb.rel r1 (.nil : Vals [] [])
  have n1 : (Value.ref (hp.objs.size + 1) :: us).length = n + 1 := by rw [List.length_cons, ← r.length, l1]
  have hus : us.length ≤ sizeLine := by
    rw [← r.length, l1, sizeLine_eq]
    omega
  refine wpAny_call (xcall G.fb hT hC hus (PySem.W.looks_findIn I.kIn iC) (fun self => PySem.W.bind_fn I.kIn self tI) (codeAny_mono (F.run _ X.stack _ _ ⟨Value.ref (hp.objs.size + 1) :: us, []⟩ (gRv (Value.ref (hp.objs.size + 1) :: us) []) _ _ E0 (hr.make C us [])
    (I2.env0.make C us []) (hb.to _ (Value.ref (hp.objs.size + 1) :: us) [] I2.kIn n1 rfl) r2 hq2) fun r s' hq' => ?_))
  cases r with
  | error e => exact False.elim hq'
  | ok fl =>
    cases fl with
    | ret u =>
      obtain ⟨v, H2, os2, bare2, un2, hok2, rv, ev, hh⟩ := hq'
      have I3 : Inv X pins σ H2 s' := I2.call' (ch := []) os2 un2 hok2 bare2 (fun b z => absurd z (by simp))
      subst ev
      refine ⟨rv, ?_⟩
      rcases hh with ⟨d, fs, ea, ed, hd1, q2⟩ | ⟨ea, q2⟩
      · obtain ⟨h2, g2, d2, t2, os'⟩ := s'
        exact mk_end (raises_own M.xk.exC tyC) I hsz kk un2 hok2 os2 bare2 ea ed hd1 q2
      · obtain ⟨t1, ho⟩ := exo_at I3.hok ea
        obtain ⟨G', gs, ga, J⟩ := I3.untrack ea (fr0_none (h0 _ hn)) hx
        exact ⟨_, _, _, { s' with heap := G' }, _, .ref C, none, rfl, J, gs, ga, ho, ⟨rfl, rfl⟩, rfl, rfl, delH_same, rfl, I3.bare, raises_own M.xk.exC tyC, q2⟩
    | next => exact False.elim hq'
    | brk => exact False.elim hq'
    | cont => exact False.elim hq'
/-- the making of the exception in raise C(e, ..) -/
theorem pmk_x (hx : X.ex = []) (tyC : PySem.W.typeIn X.K (.ref C) = some (.type "type")) (M : XMak ⟨X.prog, X.w, X.K, X.mg, X.base⟩ k x C n [] sp) (hr : Room j X.A) (hk : k + 1 ≤ j) (hg : Gl X x) (ha : PA X (e :: es) t) (hdb : (x == ("__debug__" : Str)) = false := by decide)
    (he : starEach (e :: es) X.env = (false, eval e X.env) :: starEach es X.env := by rfl) (hpl : (backTo pos (starEach es X.env)).any (·.1) = false := by rfl) :
    PMk X (.Call (.Name x p) (e :: es) [] pos) (fun σ H Q => t σ H fun vs H1 => rMkR X.H_0 C n sp [] vs H1 Q) := by
  intro pins s σ H Q I h
  refine wpAny_Call_Name_kw (ld_glob I hg M.mg ?_ hdb)
  refine PySem.W.callWith_K (h₀ := X.base) I.ok.mod.kin M.xk.kC (thn (ha.run pos pins s σ H _ I h) fun us s1 ⟨vs, H1, I1, r, q⟩ => ⟨I1.kIn, ?_⟩) he hpl
  exact run_mkr hx tyC M (hr.mono hk) I1 r q
end
def rIsEd (K : PySem.W.Frag) (D a : Addr) (d : Option Addr) : List V → Hp → VK → Prop := fun xs H Q => ∃ (c : V) (cv : Value) (b : Bool), xs = [.ref a, c] ∧ (∀ u, RelV c u → u = cv) ∧ PySem.W.kitOne K (.ref D) cv = some b ∧ (d = none ∨ ∃ dd fs, d = some dd ∧ H dd = some (.xd fs)) ∧ Q (.bl b) H
theorem call_isEd {X : Cx} {a D : Addr} {d : Option Addr} {oe : Obj} {pn : List (Addr × Obj)} (T : ExK X.K D) (hz : Zc (.ref D) d oe) (hf : ∃ vs, oe.data = .fields vs) : CallR (X.suite a ((a, oe) :: pn)) (.builtin "isinstance") (rIsEd X.K D a d) := by
  intro pins s σ H xs us Q I r h
  obtain ⟨c, cv, b, rfl, hcv, e, hd, q⟩ := h
  cases r with
  | cons rx rr =>
    cases rr with
    | cons rt rr =>
      cases rr
      cases rx
      obtain rfl := hcv _ rt
      obtain ⟨hget, _⟩ := I.pin (a, oe) (List.mem_append.mpr (.inl List.mem_cons_self))
      obtain ⟨vs, hv⟩ := hf
      obtain ⟨cd, hcd, _⟩ := PySem.W.any_some T.hd
      have J : ∃ od, PySem.W.InstAt s.heap a oe D od := by
        rcases hd with rfl | ⟨dd, fs, rfl, hx⟩
        · refine ⟨none, hget, hz.1, ?_, ?_⟩
          · unfold PySem.W.notCls
            rw [hv] <;> rfl
          · rw [hz.2]
            trivial
        · have hx2 : ObjOk X.prog X.w H s.heap dd (.xd fs) := I.hok dd _ hx
          obtain ⟨mA, hns, _⟩ := hx2
          obtain ⟨od, ho, _⟩ := lookIn_ns hns
          refine ⟨some od, hget, hz.1, ?_, ?_⟩
          · unfold PySem.W.notCls
            rw [hv] <;> rfl
          · rw [hz.2]
            exact ho
      obtain ⟨od, J⟩ := J
      exact PySem.W.kia_one (PySem.W.kitx_exc (by rw [hcd]; rfl) T.ga T.gg T.exC T.ha T.hn T.ht T.hm) I.kIn J e (fun z => nomatch z) fun tk => ⟨.bl b, H, I.kept (t' := tk) fun _ _ z => z, rfl, q⟩
end Ly
namespace Ly
open PySem PySem.Spec PyProof.Rows L2
abbrev CXW (W : Wd) : CXT := L2.CX W.P W.w
theorem fun_okx {P : Program} {w : World} {K : PySem.W.Frag} {mg : Str → Option Value} {base : Heap} {x qual : Str} {st : Stmt} {f : Addr} {fd : FuncData} {N ps : List Str} {k : Nat} {sp : Sp} (F : L2.Fun K x qual st f fd) (S : FnScope N ps (defScope st)) (len : ∀ vs H Q E, sp vs H Q E → vs.length = ps.length)
    (hbody : ∀ (cdv : Value) (A : Around) (outer : List Env) (s : Shared) (H : Hp) (vs : List V) (Q : VK) (E : XK), Room k (A.deeper (envOfC qual (defScope st) s.heap.objs.size f cdv)) → sp vs H Q E →
      ∃ t, PSs (cxOf (L2.CX P w) P w K mg base N qual (defScope st) f cdv A outer s H E) (defBody st) t ∧ t { nx := fun _ H' => Q .non H', rt := Q } (start N vs) H) : FnOk P w K mg base (L2.CX P w) (k + 1) f fd ps sp := by
  obtain ⟨oc, od, kV, doc, pm, an, cdv, ct, osl, rfl, lk, hcd⟩ := F.ex
  exact fn_of lk hcd S len fun A outer s H vs Q E hr hsp => hbody cdv A outer s H vs Q E hr hsp
def BodyX (W : Wd) (k : Nat) (N : List Str) (qual : Str) (st : Stmt) (sp : Sp) : Prop :=
  ∀ (f : Addr) (cdv : Value) (A : Around) (outer : List Env) (s : Shared) (H : Hp) (vs : List V) (Q : VK) (E : XK), Room k (A.deeper (envOfC qual (defScope st) s.heap.objs.size f cdv)) → sp vs H Q E →
      ∃ t, PSs (cxOf (CXW W) W.P W.w W.K W.mg W.base N qual (defScope st) f cdv A outer s H E) (defBody st) t ∧ t { nx := fun _ H' => Q .non H', rt := Q } (start N vs) H
structure Clx (W : Wd) (k : Nat) (x : Str) (sp : Sp) : Prop where
  ex : ∃ (f : Addr) (fd : FuncData) (ps : List Str), FnOk W.P W.w W.K W.mg W.base (CXW W) k f fd ps sp ∧ W.mg x = some (.ref f) ∧ PySem.W.keepIn W.K (.ref f) = true ∧ Binds W.K fd ps []
/-- a class that is made by a positional promise -/
structure MakR (W : Wd) (CXa : CXT) (k : Nat) (x : Str) (C : Addr) (sp : Sp) : Prop where
  ex : ∃ f : Addr, Mk W.K C f ∧ FnR W.P W.w W.K W.mg W.base CXa k f sp ∧ W.mg x = some (.ref C)
section
variable {W : Wd} {k n : Nat} {C : Addr} {x m qual : Str} {st : Stmt} {N ps ks : List Str} {sp : Sp} {dvs : List V}
theorem clx_of (g : GF W.K W.mg x st) (S : FnScope N ps (defScope st)) (hb : BindOk x x st ps) (len : ∀ vs H Q E, sp vs H Q E → vs.length = ps.length) (hbody : BodyX W k N x st sp) : Clx W (k + 1) x sp := by
  obtain ⟨f, fd, F, hm⟩ := g.ex
  exact ⟨f, fd, ps, fun_okx F S len (fun cdv A outer s H vs Q E => hbody f cdv A outer s H vs Q E), hm, F.kp, F.binds hb⟩
end
section
variable {X : Cx} {W0 : WX} {E : XK} {k j : Nat} {C : Addr} {x m : Str} {sp : Sp} {p pos apos : Pos} {o e : Expr} {es : List Expr} {kws : List Keyword} {ta : TE} {t tk : TA} {pl : Sem Bool} {ks : List Str}
theorem pe_clx (c : Clx ⟨X.prog, X.w, X.K, X.mg, X.base⟩ k x sp) (tx : Takes X W0) (hW : ∀ cls d σ H, E cls d H → W0 cls d σ H) (hr : Room j X.A) (hk : k ≤ j) (hg : Gl X x) (ha : PA X (e :: es) t)
    (hdb : (x == ("__debug__" : Str)) = false := by decide) (he : starEach (e :: es) X.env = (false, eval e X.env) :: starEach es X.env := by rfl) (hpl : (backTo pos (starEach es X.env)).any (·.1) = false := by rfl) :
    PE X (.Call (.Name x p) (e :: es) [] pos) (tCall sp [] E t) := by
  obtain ⟨f, fd, ps, F, hm, kp, b⟩ := c.ex
  exact pe_call F (hr.mono hk) hg hm kp b .nil (passes_call tx hW) ha hdb he hpl
theorem pe_mkR (M : MakR ⟨X.prog, X.w, X.K, X.mg, X.base⟩ CX0 k x C sp) (hr : Room j X.A) (hk : k + 1 ≤ j) (hg : Gl X x) (ha : PA X (e :: es) t) (hdb : (x == ("__debug__" : Str)) = false := by decide)
    (he : starEach (e :: es) X.env = (false, eval e X.env) :: starEach es X.env := by rfl) (hpl : (backTo pos (starEach es X.env)).any (·.1) = false := by rfl) : PE X (.Call (.Name x p) (e :: es) [] pos) (StX.tMakeR C sp E0 t) := by
  obtain ⟨f, h, F, hm⟩ := M.ex
  exact StX.pe_makeR h F (hr.mono hk) hg hm pass0 ha hdb he hpl
theorem pe_mkRx (M : MakR ⟨X.prog, X.w, X.K, X.mg, X.base⟩ (L2.CX X.prog X.w) k x C sp) (tx : Takes X W0) (hW : ∀ cls d σ H, E cls d H → W0 cls d σ H) (hr : Room j X.A) (hk : k + 1 ≤ j) (hg : Gl X x) (ha : PA X (e :: es) t) (hdb : (x == ("__debug__" : Str)) = false := by decide)
    (he : starEach (e :: es) X.env = (false, eval e X.env) :: starEach es X.env := by rfl) (hpl : (backTo pos (starEach es X.env)).any (·.1) = false := by rfl) : PE X (.Call (.Name x p) (e :: es) [] pos) (StX.tMakeR C sp E t) := by
  obtain ⟨f, h, F, hm⟩ := M.ex
  exact StX.pe_makeR h F (hr.mono hk) hg hm (passes_call tx hW) ha hdb he hpl
end
def tRaise1 (Hz : Hp) (C : Addr) (f : Str) (E : XK) (t : TA) : TS := fun _ σ H => t σ H fun vs H1 => rMkR Hz C 1 (spX1 C f) [] vs H1 E
theorem ps_raise1 {X : Cx} {E : XK} {k j : Nat} {C : Addr} {x f : Str} {p pos pos' : Pos} {e : Expr} {t : TA} (hc : X.calm = true) (tx : Takes X fun cls d _ H => E cls d H) (hx : X.ex = []) (tyC : PySem.W.typeIn X.K (.ref C) = some (.type "type")) (M : XMak ⟨X.prog, X.w, X.K, X.mg, X.base⟩ k x C 1 [] (spX1 C f)) (hr : Room j X.A) (hk : k + 1 ≤ j) (hg : Gl X x) (ha : PA X [e] t)
    (hdb : (x == ("__debug__" : Str)) = false := by decide) (he : starEach [e] X.env = (false, eval e X.env) :: starEach [] X.env := by rfl) (hpl : (backTo pos (starEach [] X.env)).any (·.1) = false := by rfl) :
    PS X (.Raise (some (.Call (.Name x p) [e] [] pos)) none pos') (tRaise1 X.H_0 C f E t) := ps_raise hc tx (pmk_x hx tyC M hr hk hg ha hdb he hpl)
/-- in the body of a def that lets exceptions out -/
theorem takes_x {P : Program} {w : World} {K : PySem.W.Frag} {mg : Str → Option Value} {base : Heap} {N : List Str} {qual : Str} {scope : Scope} {f : Addr} {cd : Value} {A : Around} {outer : List Env} {s : Shared} {H : Hp} {E : XK} :
    Takes (cxOf (L2.CX P w) P w K mg base N qual scope f cd A outer s H E) fun cls d _ H => E cls d H := takes_of rfl rfl rfl rfl
end Ly
namespace Dt
open PySem PySem.Spec PyProof.Rows L2 Ly
abbrev Kx := Addr → List (Str × D) → Prop
/-- an exception whose fields are told is taken -/
def XcAt (π : Po) (X : Xs) (H : Hp) (kx : Kx) (E : XK) : Prop := ∀ (H' : Hp) (C dd : Addr) (fs : List (Str × V)) (fds : List (Str × D)), Kp π H H' → H dd = none → H' dd = some (.xd fs) → fs.map (·.1) = fds.map (·.1) → Ats (cut X H') (fs.map (·.2)) (fds.map (·.2)) → kx C fds → E (.ref C) (some dd) H'
/-- an expression that may let an exception out -/
def WpX (π : Po) (E : XK) (kx : Kx) (te : TE) (δ : List Rv) (k : Rv → Prop) : Prop :=
  ∀ (X : Xs) (H : Hp) (σ : L2.St) (Q : VK), Ok π X H → Ev π X H σ δ → XcAt π X H kx E → (∀ v r H', Kp π H H' → RAt π X H H' r v → k r → Q v H') → te σ H Q
theorem Wp.x {π : Po} {E : XK} {kx : Kx} {te : TE} {δ : List Rv} {k : Rv → Prop} (h : Wp π te δ k) : WpX π E kx te δ k := fun X H σ Q o e _ q => h X H σ Q o e q
theorem XcAt.up {π : Po} {X : Xs} {H H1 : Hp} {kx : Kx} {E : XK} (h : XcAt π X H kx E) (o : Ok π X H) (k : Kp π H H1) : XcAt π X H1 kx E := fun H' C dd fs fds k' h0 h1 h2 h3 h4 => h H' C dd fs fds (k.trans k') (k.free o h0) h1 h2 h3 h4
theorem EndsOk.at_ {π : Po} {H0 : Hp} {X0 : Xs} {L : Lk} {X : Xs} {H : Hp} {k : Ke} {D : Ends} (en : EndsOk π H0 X0 L X H k D) (iv : Iv π H0 X0 L X H) : XcAt π X H k.kx k.xe := fun H' C dd fs fds k' h0 h1 h2 h3 h4 =>
  en.xc H' C dd fs fds (undo_kp iv.ok iv.lk iv.kp k') (by cases e : H0 dd with | none => rfl | some o => exact absurd h0 (iv.old dd (by rw [e]; exact fun z => by cases z))) h1 h2 (h3.mono (cut_less iv.sub)) h4
section
variable {π : Po} {δ : List Rv} {k : Ke} {te : TE} {t : TA} {g : TG}
/-- raise C(e) -/
theorem ws_raise1 {Hz : Hp} {C : Addr} {f : Str} {E : XK} (hE : k.xe = E) (hH : k.hz = Hz) (q : WpA π t δ fun as => ∃ r d, as = [r] ∧ r.fz = some d ∧ k.kx C [(f, d)]) : Ws π (tRaise1 Hz C f E t) k δ := fun H0 X0 L X H σ D iv ev ow en => by
  refine q X H σ _ iv.ok ev fun vs rs H1 k1 a w => ?_
  obtain ⟨r, d, rfl, hf, kx⟩ := w
  match vs, a with
  | [v], ⟨a, _⟩ =>
    have a1 : At (cut X H1) v d := RAt.fz iv.ok a hf
    have iv1 := iv.keep k1
    refine ⟨rfl, by decide, rfl, fun b hb => ?_, fun x hx => ⟨x, v, rfl, upd_same, fun dd hd hne => ⟨rfl, .inl ⟨dd, [(f, v)], ?_, upd_same, ?_, ?_⟩⟩⟩⟩
    · rw [← hH]
      exact en.hz b (k1.free iv.ok hb)
    · rw [upd_ne (Ne.symm hne), upd_same]
    · rw [upd_ne hne] at hd
      exact hd
    · rw [upd_ne hne] at hd
      have S : Same H1 (L2.upd (L2.del (L2.upd (L2.upd (L2.upd (L2.upd H1 x (exo x C none)) dd (exd dd [])) x (exo x C (some dd))) dd (exd dd [(f, v)])) x) dd (.xd [(f, v)])) := fun c u e => by
        have c1 : c ≠ dd := ne_of_none e hd
        have c2 : c ≠ x := ne_of_none e hx
        rw [upd_ne c1]
        show (if c = x then none else _) = some u
        rw [if_neg c2, upd_ne c1, upd_ne c2, upd_ne c1, upd_ne c2]
        exact e
      have k2 := Kp.of_same iv1.ok S
      rw [← hE]
      exact en.xc _ C dd [(f, v)] [(f, d)] (undo_kp iv1.ok iv1.lk iv1.kp k2) (by cases e : H0 dd with | none => rfl | some o => exact absurd hd (iv1.old dd (by rw [e]; exact fun z => by cases z))) upd_same rfl (.cons ((a1.mono (iv1.ok.mo k2)).mono (cut_less iv.sub)) .nil) kx
/-- an expression statement, a return, an assignment that may let an exception out -/
theorem ws_retX (q : WpX π k.xe k.kx te δ fun r => ∃ x, r = .d x ∧ k.rt (.d x)) : Ws π (tRet te) k δ := fun H0 X0 L X H σ D iv ev ow en => by
  refine q X H σ _ iv.ok ev (en.at_ iv) fun v r H1 k1 a w => ?_
  obtain ⟨x, rfl, w⟩ := w
  exact en.rt X H1 v (.d x) (iv.keep k1) (iv.ok.fr k1) (fun _ z => z) (At.mono (cut_less iv.sub) a) w
end
/-- a def over data that lets an exception out: B says what must be so of the arguments that an exception kx may be counted on -/
def spX (pt : Bool) (B : List Rv → Kx → Prop) : Sp := fun vs H _ E => ∃ (π : Po) (X : Xs) (rs : List Rv) (kx : Kx), π.pot.isSome = pt ∧ Ok π X H ∧ rs.all isArg = true ∧ RAts π X H H rs vs ∧ B rs kx ∧ XcAt π X H kx E
theorem run_bodyX {pt : Bool} {B : List Rv → Kx → Prop} {t : TS} {N : List Str} {m n : Nat} {vs : List V} {H : Hp} {Q : VK} {E : XK} (hm : N.length - n = m) (hB : ∀ rs k, B rs k → rs.length = n)
    (ht : ∀ (π : Po) (rs : List Rv) (kx : Kx), π.pot.isSome = pt → B rs kx → Ws π t { nx := fun _ => False, rt := fun _ => False, xe := E, kx := kx, hz := H } (rs ++ uns m)) (h : spX pt B vs H Q E) : t { nx := fun _ H' => Q .non H', rt := Q } (L2.start N vs) H := by
  obtain ⟨π, X, rs, kx, hp, ok, ha, at_, b, q⟩ := h
  have hl := hB rs kx b
  refine ht π rs kx hp b H X (fun _ => none) X H _ _ ⟨ok, ok, by rw [undo_none]; exact ok.kp, fun _ x => x, fun a u e => (by cases e), fun _ x => x⟩ (Ev.start at_ ha (by rw [← at_.length, hl]; exact hm)) (own_args ha) ⟨fun X' H' σ δ iv _ _ _ w => w.elim, fun X' H' σ δ iv _ _ _ w => w.elim, fun X' H' σ δ iv _ _ _ w => w.elim, fun X' H' v r iv _ no a w => w.elim, fun H' C dd fs fds k' h0 h1 h2 h3 h4 => ?_, fun _ z => z⟩
  rw [undo_none] at k'
  exact q H' C dd fs fds k' h0 h1 h2 h3 h4
theorem body_X {W : Wd} {k : Nat} {N : List Str} {qual : Str} {st : Stmt} {pt : Bool} {B : List Rv → Kx → Prop} {n m : Nat} (hm : N.length - n = m) (hB : ∀ rs k, B rs k → rs.length = n)
    (hb : ∀ (f : Addr) (cdv : Value) (A : Around) (outer : List Env) (s : Shared) (H : Hp) (E : XK), Room k (A.deeper (envOfC qual (defScope st) s.heap.objs.size f cdv)) →
      ∃ t, PSs (cxOf (CXW W) W.P W.w W.K W.mg W.base N qual (defScope st) f cdv A outer s H E) (defBody st) t ∧ ∀ (π : Po) (rs : List Rv) (kx : Kx), π.pot.isSome = pt → B rs kx → Ws π t { nx := fun _ => False, rt := fun _ => False, xe := E, kx := kx, hz := H } (rs ++ uns m)) :
    BodyX W k N qual st (spX pt B) := fun f cdv A outer s H vs Q E hr h => by
  obtain ⟨t, ps, w⟩ := hb f cdv A outer s H E hr
  exact ⟨t, ps, run_bodyX hm hB w h⟩
theorem len_X {pt : Bool} {B : List Rv → Kx → Prop} {n : Nat} (hB : ∀ rs k, B rs k → rs.length = n) : ∀ vs H Q E, spX pt B vs H Q E → vs.length = n := fun vs H Q E ⟨π, X, rs, k, _, _, _, at_, b, _⟩ => by rw [← at_.length]; exact hB rs k b
/-- the pure callee's own ends -/
theorem XcAt.no {π : Po} {X : Xs} {H : Hp} {kx : Kx} {E : XK} (o : Ok π X H) (h : XcAt π X H kx E) : XcAt no X H kx E := fun H' C dd fs fds k' h0 h1 h2 h3 h4 => h H' C dd fs fds (Kp.of_same o k'.same) h0 h1 h2 h3 h4
section
variable {π : Po} {δ : List Rv} {k : Rv → Prop} {kx : Kx} {E : XK} {t : TA} {ta : TE} {B : List Rv → Kx → Prop} {C : Addr} {m : Str}
/-- what is done with values that are there, and may let an exception out -/
def WCbX (π : Po) (E : XK) (kx : Kx) (r : List V → Hp → VK → Prop) (as : List Rv) (k : Rv → Prop) : Prop :=
  ∀ (X : Xs) (H0 H : Hp) (xs : List V) (Q : VK), Ok π X H0 → Ok π X H → Kp π H0 H → RAts π X H0 H as xs → XcAt π X H kx E → (∀ v z H', Kp π H H' → RAt π X H0 H' z v → k z → Q v H') → r xs H Q
theorem wcb_X {as rs : List Rv} (hf : fzA as = some rs) (hN : rs.all noPot = true) (hB : B rs kx) : WCbX π E kx (fun vs H Q => spX false B vs H Q E) as k := fun X H0 H xs Q o0 o k0 a x h =>
  ⟨no, X, rs, kx, rfl, o.none, fzA_all hf, (a.fzA o0 hf).free (fzA_all hf) hN, hB, x.no o⟩
/-- f(..), which raises -/
theorem wx_call (q : WpA π t δ fun as => WCbX π E kx (fun vs H Q => spX false B vs H Q E) as k) : WpX π E kx (tCall (spX false B) [] E t) δ k := fun X H σ Q o e x h => by
  refine i_call ?_
  refine q X H σ _ o e fun vs as H1 k1 a w => ?_
  exact w X H H1 vs Q o (o.keep k1) k1 a (x.up o k1) fun v z H' k2 ra kz => h v z H' (k1.trans k2) ra kz
end
def spIX (C : Addr) (pt : Bool) (B : List Rv → Kx → Prop) : Sp := fun vs H _ E => ∃ (π : Po) (X : Xs) (H1 : Hp) (x dx : Addr) (ws : List V) (rs : List Rv) (kx : Kx), vs = .ref x :: ws ∧ H1 x = none ∧ H1 dx = none ∧ dx ≠ x ∧ H = L2.upd (L2.upd H1 dx (.own x)) x (.ins C dx []) ∧
  π.pot.isSome = pt ∧ Ok π X H1 ∧ rs.all isArg = true ∧ RAts π X H1 H1 rs ws ∧ B rs kx ∧ XcAt π X H1 kx E
theorem run_initX {C : Addr} {pt : Bool} {B : List Rv → Kx → Prop} {t : TS} {N : List Str} {m n : Nat} {vs : List V} {H : Hp} {Q : VK} {E : XK} (hm : N.length - (n + 1) = m) (hB : ∀ rs k, B rs k → rs.length = n)
    (ht : ∀ (π : Po) (rs : List Rv) (kx : Kx) (x : Addr), π.pot.isSome = pt → B rs kx → Ws π t { nx := fun _ => False, rt := fun _ => False, xe := E, kx := kx, hz := H } (.own x (.obj C []) :: (rs ++ uns m))) (h : spIX C pt B vs H Q E) : t { nx := fun _ H' => Q .non H', rt := Q } (L2.start N vs) H := by
  obtain ⟨π, X, H1, x, dx, ws, rs, k, rfl, hx, hdx, hne, eH, hp, ok, ha, at_, b, q⟩ := h
  have hl := hB rs k b
  have nX : ¬ X x := fun z => ok.dom x z hx
  have nXd : ¬ X dx := fun z => ok.dom dx z hdx
  have npx : ¬ Mu π x := fun z => nX (ok.pot x z).1
  have hx' : (L2.upd H1 dx (.own x)) x = none := by rw [upd_ne hne.symm]; exact hx
  have k1 : Kp π H1 (L2.upd (L2.upd H1 dx (.own x)) x (.ins C dx [])) := (ok.kp.add ok hdx).add ok hx
  have m1 : Mo (cut X H1) (cut (plus X x) (L2.upd (L2.upd H1 dx (.own x)) x (.ins C dx []))) := cut_keep (fun a u n e => k1.keep a u (fun z => n (ok.pot a z).1) e) fun a u n e z => z.elim n (ne_of_none e hx)
  have ok1 : Ok π (plus X x) (L2.upd (L2.upd H1 dx (.own x)) x (.ins C dx [])) := ⟨fun p z => z.elim (fun z => (ok.keep k1).dom p z) fun z => by rw [z, upd_same]; exact fun z => (by cases z), fun q e => ⟨.inl (ok.pot q e).1, k1.pot q e⟩⟩
  have ats := at_.plus m1 ha
  have ev : Ev π (plus X x) (L2.upd (L2.upd H1 dx (.own x)) x (.ins C dx [])) (L2.start N (.ref x :: ws)) (.own x (.obj C []) :: (rs ++ uns m)) := by
    have z := Ev.start (N := List.replicate (N.length - 1) ("" : Str)) (m := m) ats ha (by rw [List.length_replicate, ← at_.length, hl]; omega)
    have es : L2.start N (.ref x :: ws) = some (.ref x) :: L2.start (List.replicate (N.length - 1) ("" : Str)) ws := by
      unfold L2.start
      rw [List.map_cons, List.cons_append, List.length_replicate, List.length_cons]
      congr 3
      omega
    rw [es]
    refine ⟨by rw [List.length_cons, List.length_cons, z.len], fun i r o h1 h2 => ?_, fun i j r s p h1 h2 a1 a2 => ?_⟩
    · cases i with
      | zero =>
        simp only [List.getElem?_cons_zero, Option.some.injEq] at h1 h2
        subst h1
        subst h2
        exact ⟨.ref x, rfl, rfl, .inr rfl, npx, dx, [], upd_same, rfl, .nil⟩
      | succ i =>
        rw [List.getElem?_cons_succ] at h1 h2
        exact z.at_ i r o h1 h2
    · have no : ∀ (i : Nat) (r : Rv), (rs ++ uns m)[i]? = some r → Fre r := fun i r h p e => (own_args (H0 := fun _ => some (.own 0)) (X0 := fun _ => True) ha i r p h e).2 trivial
      cases i with
      | zero =>
        cases j with
        | zero => rfl
        | succ j =>
          rw [List.getElem?_cons_succ] at h2
          exact (no j s h2 _ a2).elim
      | succ i =>
        rw [List.getElem?_cons_succ] at h1
        exact (no i r h1 _ a1).elim
  have ow : Own0 H1 X (.own x (.obj C []) :: (rs ++ uns m)) := fun i r p h1 a1 => by
    cases i with
    | zero =>
      simp only [List.getElem?_cons_zero, Option.some.injEq] at h1
      subst h1
      cases a1
      exact ⟨hx, nX⟩
    | succ i =>
      rw [List.getElem?_cons_succ] at h1
      exact own_args ha i r p h1 a1
  rw [← eH] at ok1 ev k1
  refine ht π rs k x hp b H1 X (fun _ => none) (plus X x) H _ _ ⟨ok1, ok, by rw [undo_none]; exact k1, fun _ z => .inl z, fun a u e => (by cases e), fun a h => ?_⟩ ev ow ⟨fun X' H' σ δ iv _ _ _ w => w.elim, fun X' H' σ δ iv _ _ _ w => w.elim, fun X' H' σ δ iv _ _ _ w => w.elim, fun X' H' v r iv _ no a w => w.elim, fun H' C dd fs fds k' h0 h1 h2 h3 h4 => ?_, fun a ha => ?_⟩
  · exact fun z => h (k1.free ok z)
  · rw [undo_none] at k'
    exact q H' C dd fs fds k' h0 h1 h2 h3 h4
  · exact ha
def InitAt (C : Addr) (pt : Bool) (vs : List V) (H : Hp) (π : Po) (X : Xs) (H1 : Hp) (x dx : Addr) (ws : List V) (rs : List Rv) : Prop := vs = .ref x :: ws ∧ H1 x = none ∧ H1 dx = none ∧ dx ≠ x ∧ H = L2.upd (L2.upd H1 dx (.own x)) x (.ins C dx []) ∧
  π.pot.isSome = pt ∧ Ok π X H1 ∧ rs.all isArg = true ∧ RAts π X H1 H1 rs ws
theorem rats_split {π : Po} {X : Xs} {H0 H : Hp} : ∀ {as : List Rv} {ds : List D} {vs : List V}, RAts π X H0 H (as ++ ds.map Rv.d) vs → ∃ ws rest, vs = ws ++ rest ∧ RAts π X H0 H as ws ∧ Ats (cut X H) rest ds := by
  intro as
  induction as with
  | nil =>
    intro ds vs a
    refine ⟨[], vs, rfl, trivial, ?_⟩
    induction ds generalizing vs with
    | nil => cases vs with | nil => exact .nil | cons => exact a.elim
    | cons d ds ih => cases vs with | nil => exact a.elim | cons v vs => exact .cons a.1 (ih a.2)
  | cons r as ih =>
    intro ds vs a
    cases vs with
    | nil => exact a.elim
    | cons v vs =>
      obtain ⟨ws, rest, rfl, h1, h2⟩ := ih a.2
      exact ⟨v :: ws, rest, rfl, ⟨a.1, h1⟩, h2⟩
theorem initAt_star {C : Addr} {pt : Bool} {vs : List V} {H : Hp} {π : Po} {X : Xs} {H1 : Hp} {x dx : Addr} {ws : List V} {as : List Rv} {ds : List D} (h : InitAt C pt vs H π X H1 x dx ws (as ++ ds.map Rv.d)) (hl : ds.length ≤ 4000) :
    ∃ ws1 rest, vs = (.ref x :: ws1) ++ rest ∧ ws1.length = as.length ∧ rest.length ≤ sizeLine ∧ ∀ p, H p = none → H1 p = none ∧ InitAt C pt (.ref x :: (ws1 ++ [.ref p])) (L2.upd H p (.tup rest)) π X (L2.upd H1 p (.tup rest)) x dx (ws1 ++ [.ref p]) (as ++ [.d (.tup ds)]) ∧ Kp π H1 (L2.upd H1 p (.tup rest)) := by
  obtain ⟨rfl, hx, hdx, hne, rfl, hp, o, ha, at_⟩ := h
  obtain ⟨ws1, rest, rfl, a1, a2⟩ := rats_split at_
  rw [List.all_append, Bool.and_eq_true] at ha
  refine ⟨ws1, rest, rfl, a1.length.symm, by rw [a2.length]; exact le_line hl, fun p hp0 => ?_⟩
  have px : p ≠ x := fun z => by rw [z, upd_same] at hp0; cases hp0
  have pd : p ≠ dx := fun z => by rw [z, upd_ne hne, upd_same] at hp0; cases hp0
  rw [upd_ne px, upd_ne pd] at hp0
  have k1 : Kp π H1 (L2.upd H1 p (.tup rest)) := o.kp.add o hp0
  refine ⟨hp0, ⟨rfl, by rw [upd_ne px.symm]; exact hx, by rw [upd_ne pd.symm]; exact hdx, hne, ?_, hp, o.keep k1, by rw [List.all_append, ha.1]; rfl, RAts.app2 (ss := [.d (.tup ds)]) (ws := [.ref p]) (a1.up (o.mo k1) ha.1) ⟨tup_new o hp0 a2, trivial⟩⟩, k1⟩
  funext c
  by_cases c1 : c = p
  · subst c1
    rw [upd_same, upd_ne px, upd_ne pd, upd_same]
  · by_cases c2 : c = x
    · subst c2
      rw [upd_ne c1, upd_same, upd_same]
    · by_cases c3 : c = dx
      · subst c3
        rw [upd_ne c1, upd_ne c2, upd_same, upd_ne c2, upd_same]
      · rw [upd_ne c1, upd_ne c2, upd_ne c3, upd_ne c2, upd_ne c3, upd_ne c1]
def BStar {β : Type} (n : Nat) (B : List Rv → β → Prop) (rs : List Rv) (k : β) : Prop := ∃ (as : List Rv) (ds : List D), rs = as ++ ds.map Rv.d ∧ as.length = n ∧ ds.length ≤ 4000 ∧ B (as ++ [.d (.tup ds)]) k
theorem star_I {C : Addr} {pt : Bool} {B : List Rv → (D → Prop) → Prop} {n : Nat} {vs : List V} {H : Hp} {Q : VK} {E : XK} (h : spI C pt (BStar n B) vs H Q E) :
    ∃ ws rest, vs = ws ++ rest ∧ ws.length = n + 1 ∧ rest.length ≤ sizeLine ∧ ∀ p, H p = none → spI C pt B (ws ++ [V.ref p]) (L2.upd H p (.tup rest)) Q E := by
  obtain ⟨π, X, H1, x, dx, ws, rs, k, e1, hx, hdx, hne, eH, hp, o, ha, at_, ⟨as, ds, rfl, hn, hl, hB⟩, q⟩ := h
  obtain ⟨ws1, rest, rfl, l1, l2, g⟩ := initAt_star (C := C) (pt := pt) ⟨e1, hx, hdx, hne, eH, hp, o, ha, at_⟩ hl
  refine ⟨_, rest, rfl, by rw [List.length_cons, l1, hn], l2, fun p hp0 => ?_⟩
  obtain ⟨p1, ⟨f1, f2, f3, f4, f5, f6, f7, f8, f9⟩, k1⟩ := g p hp0
  exact ⟨π, X, _, x, dx, _, _, k, rfl, f2, f3, f4, f5, f6, f7, f8, f9, hB, fun H' fs k2 t kd => q H' fs (k1.trans k2) t kd⟩
theorem star_IX {C : Addr} {pt : Bool} {B : List Rv → Kx → Prop} {n : Nat} {vs : List V} {H : Hp} {Q : VK} {E : XK} (h : spIX C pt (BStar n B) vs H Q E) :
    ∃ ws rest, vs = ws ++ rest ∧ ws.length = n + 1 ∧ rest.length ≤ sizeLine ∧ ∀ p, H p = none → spIX C pt B (ws ++ [V.ref p]) (L2.upd H p (.tup rest)) Q E := by
  obtain ⟨π, X, H1, x, dx, ws, rs, k, e1, hx, hdx, hne, eH, hp, o, ha, at_, ⟨as, ds, rfl, hn, hl, hB⟩, q⟩ := h
  obtain ⟨ws1, rest, rfl, l1, l2, g⟩ := initAt_star (C := C) (pt := pt) ⟨e1, hx, hdx, hne, eH, hp, o, ha, at_⟩ hl
  refine ⟨_, rest, rfl, by rw [List.length_cons, l1, hn], l2, fun p hp0 => ?_⟩
  obtain ⟨p1, ⟨f1, f2, f3, f4, f5, f6, f7, f8, f9⟩, k1⟩ := g p hp0
  exact ⟨π, X, _, x, dx, _, _, k, rfl, f2, f3, f4, f5, f6, f7, f8, f9, hB, q.up o k1⟩
section
variable {π : Po} {δ : List Rv} {k : Rv → Prop} {kx : Kx} {E : XK} {t : TA} {C : Addr} {dvs : List V} {drs : List Rv}
/-- C(..): an object, by a positional promise -/
theorem w_makeR {B : List Rv → (D → Prop) → Prop} (q : WpA π t δ fun as => ∃ rs, fzA as = some rs ∧ rs.all noPot = true ∧ B rs fun d => k (.d d)) : Wp π (StX.tMakeR C (spI C false B) E0 t) δ k := fun X H σ Q o e h => by
  refine q X H σ _ o e fun vs as H1 k1 a w => ?_
  obtain ⟨rs, hf, hN, b⟩ := w
  intro x dx hx hdx hne
  have o1 := o.keep k1
  have a1 := a.fzA o hf
  refine ⟨no, X, H1, x, dx, vs, rs, fun d => k (.d d), rfl, hx, hdx, hne, rfl, rfl, o1.none, fzA_all hf, a1.free (fzA_all hf) hN, b, fun H' fs k2 t2 kd => ⟨rfl, ?_⟩⟩
  have k3 : Kp π H1 H' := Kp.of_same o1 k2.same
  have nX : ¬ X x := fun z => o1.dom x z hx
  refine h (.ref x) (.d (.obj C fs)) H' (k1.trans k3) ?_ kd
  obtain ⟨dx', fs', e1, e2, t3⟩ := t2
  exact At.obj (cut_of nX e1) e2 (t3.mono plus_sub)
end
end Dt
namespace Ly
open PySem PySem.Spec PyProof.Rows L2 LamX
section
variable {X : Cx} {pins : List (Addr × Obj)} {σ : L2.St} {H : Hp} {s : Shared}
/-- stronger than LamX.lam_make2 in what is told of the heap: but for the one table all is kept -/
theorem lam_one {c P : Addr} {params : Arguments} {body : Expr} {scope : Scope} {pos : Pos} {E : Value → Shared → Prop} {Q : Value → Shared → Prop} (I : Inv X pins σ H s) (TB : TabB X.base X.mg c P) (hcode : X.env.code = .ref c)
    (hT : TabS H P (X.env.qual ++ "<lambda>")) (hdef : defaultsOf params X.env = ([], [])) (hfree : ∀ y ∈ scope.names, y.2 = .free → ∃ c, X.env.cells.lookup y.1 = some c)
    (h : ∀ (f c' : Addr) (pm ctv : Value) (H1 : Hp) (s' : Shared), Inv X pins σ H1 s' → (∀ b o, b ≠ P → H b = some o → H1 b = some o) → TabS H1 P (X.env.qual ++ "<lambda>") →
      s'.heap.get? f = some (PySem.W.kla_obj "<lambda>" (X.env.qual ++ "<lambda>") params body scope (cloFrom X.env.cells scope.names []) pm c' ctv) → H1 f = none → f ∉ frs X.stack → H1 c' = some (CodeO c' (X.env.qual ++ "<lambda>")) → Q (.ref f) s') :
    wpAny (model X.prog X.w) X.A (eval (.Lambda params body scope pos) X.env) Q E s := by
  obtain ⟨ps, hP, ht, ha⟩ := hT
  have at_P := I.hok P _ hP
  have nofr : ∀ f, s.heap.objs.size ≤ f → f ∉ frs X.stack := fun f hf z => (List.mem_cons.mp (I.stkSub _ z)).elim (fun e => absurd (e ▸ I.lt) (Nat.not_lt.mpr hf)) fun e => absurd e (I.nofs hf)
  refine PySem.W.kla_eval hdef ?_
  rcases hc : codeAmong pos ps.toList with _ | cv
  · refine PySem.W.kla_makeFunction (mg := X.mg) (c := c) (P := P) (ps := ps) (closure_ok hfree) I.ok.glob (I.mod.glob.keeps I.bk) hcode (TB.code.keeps I.bk) at_P ht hc TB.gP (TB.bm.keeps I.bk) fun c' ctv h' tk hx hge hlt ⟨_, oc, vs, t, e2, hoc, hd, hv⟩ htb => ?_
    cases e2
    have nC : H c' = none := I.hok.fresh hge
    have old : ∀ b o, b ≠ P → H b = some o → upd (upd H P (.tbl (ps ++ #[rawInt pos.line, rawInt pos.col, .ref c']))) c' (CodeO c' (X.env.qual ++ "<lambda>")) b = some o := fun b o hb e => by
      rw [upd_ne (ne_of_none e nC), upd_ne hb]
      exact e
    have cne : ∀ b, H b = some (CodeO b (X.env.qual ++ "<lambda>")) → b ≠ P := fun b e z => by
      rw [z, hP] at e
      exact codeO_ne ps (Option.some.inj e).symm
    refine h h'.objs.size c' _ ctv _ _ (inv_table (t' := tk) (more := #[rawInt pos.line, rawInt pos.col, .ref c']) I hP (fun b o hb e => Heap.get?_push_of_some _ (hx b o hb e)) (Heap.get?_push_of_some _ htb) hge ⟨oc, vs, t, Heap.get?_push_of_some _ hoc, hd, hv⟩) old
      ⟨_, by rw [upd_ne (ne_of_none hP nC), upd_same], by simpa using PySem.TriplesOk_snoc _ _ _ _ ht, fun p' cv hcv => ?_⟩ (Heap.get?_push_size _ rfl) ?_ (nofr _ (Nat.le_trans hge (Nat.le_of_lt hlt))) upd_same
    · have hcv' : codeAmong p' (ps.toList ++ [rawInt pos.line, rawInt pos.col, .ref c']) = some cv := by simpa using hcv
      rcases among_app _ ht hcv' with z | z
      · obtain ⟨c0, e1, e2⟩ := ha p' cv z
        exact ⟨c0, e1, old c0 _ (cne c0 e2) e2⟩
      · exact ⟨c', z, upd_same⟩
    · rw [upd_ne (Nat.ne_of_gt hlt), upd_ne (Nat.ne_of_gt (Nat.lt_of_lt_of_le (Heap.lt_size at_P) (Nat.le_trans hge (Nat.le_of_lt hlt))))]
      exact I.hok.fresh (Nat.le_trans hge (Nat.le_of_lt hlt))
  · obtain ⟨c', rfl, hco⟩ := ha pos cv hc
    refine PySem.W.kla_makeFunctionHit (mg := X.mg) (c := c) (P := P) (ps := ps) (closure_ok hfree) I.ok.glob (I.mod.glob.keeps I.bk) hcode (TB.code.keeps I.bk) at_P ht hc (TB.bm.keeps I.bk) fun ctv h' tk hx hsz => ?_
    exact h h'.objs.size c' _ ctv H _ (I.kept fun b o e => Heap.get?_push_of_some _ (hx b o e)) (fun _ _ _ e => e) ⟨ps, hP, ht, ha⟩ (Heap.get?_push_size _ rfl) (I.hok.fresh hsz) (nofr _ hsz) hco
end
def tLamS (P : Addr) (q : Str) (TT : (XK → Hp → VK → Prop) → Hp → VK → Prop) (t : XK → TE) : TE := fun σ H Q => TabS H P q ∧ ∀ H1, (∀ b o, b ≠ P → H b = some o → H1 b = some o) → TabS H1 P q → TT (fun E H' Q' => t E σ H' Q') H1 Q
section
variable {X : Cx}
/-- x(lambda: body), x a def of one parameter that calls it -/
theorem pe_lamS {TT : (XK → Hp → VK → Prop) → Hp → VK → Prop} {x a : Str} {g c P : Addr} {k : Nat} {pg : Arguments} {bg : List Stmt} {sg : Scope} {dV kV doc pm cdv ct oc : Value} {an od : Option Addr} {osl : Array (Option Value)} {Ng : List Str}
    {params : Arguments} {body : Expr} {scope : Scope} {t : XK → TE} {p lpos pos : Pos} (hg : Gl X x) (hm : X.mg x = some (.ref g)) (hk : PySem.W.keepIn X.K (.ref g) = true)
    (lk : X.K.lookup g = some ⟨oc, od, .func (PySem.W.fnOf x x pg bg sg dV kV doc pm an cdv ct), osl⟩) (hcg : PySem.W.codeIn X.K cdv x = true) (hb : L2.Binds X.K (PySem.W.fnOf x x pg bg sg dV kV doc pm an cdv ct) [a] []) (Sg : FnScope Ng [a] sg) (hNg : Ng[0]? = some a) (hva : Vis sg a)
    (hG : GivesTo X Ng x sg g cdv bg a (X.env.qual ++ "<lambda>") TT)
    (TB : TabB X.base X.mg c P) (hcode : X.env.code = .ref c) (hr : Room (k + 2) X.A) (L : LamS X.env.scope scope) (hdef : defaultsOf params X.env = ([], []))
    (hbind : ∀ (q : Str) (cl : List (Str × Addr)) (pm cv ctv : Value), bindArgs (PySem.W.kla_fn "<lambda>" q params body scope cl pm cv ctv) ⟨[], []⟩ = pure [])
    (hbody : ∀ (A : Around) (outer : List Env) (s : Shared) (H : Hp) (E : XK) (f c' : Addr), Room k (A.deeper (lamEnv X scope s.heap.objs.size f c')) → PE (lamCx X A outer s H E scope f c') body (t E))
    (hdb : (x == ("__debug__" : Str)) = false := by decide) (hd : (a == ("__debug__" : Str)) = false := by decide) (hcd : (a == ("__classdict__" : Str)) = false := by decide) :
    PE X (.Call (.Name x p) [.Lambda params body scope lpos] [] pos) (tLamS P (X.env.qual ++ "<lambda>") TT t) := by
  refine ⟨fun pins s σ H Q I ⟨hT, h⟩ => wpAny_Call_Name_kw (ld_glob I hg hm ?_ hdb)⟩
  refine PySem.W.callWith_K (h₀ := X.base) I.ok.mod.kin hk ?_ (by rfl) (by rfl)
  show wpAny _ _ (spliced ((false, eval (.Lambda params body scope lpos) X.env) :: backTo pos (starEach [] X.env))) _ _ s
  refine Calls.spliced_cons (lam_one I TB hcode hT hdef (L.has I.ok) fun f c' pm' ctv H1 s' I1 eN T1 hf hfn hfr hco => Calls.spliced_nil ⟨I1.kIn, wpAny_call (codeAny_mono ?_ fun r s2 (hq : CR C8.CX0 X.stack X.prog X.w H1 s' Q C8.E0 r s2) => ?_)⟩)
  · refine run_ofS (N := Ng) (ps := [a]) (us := [.ref f]) (vs := [.ref f]) lk hcg Sg hr I1.env0 (hb s' [.ref f] I1.kIn rfl) (.cons rfl .nil) rfl fun hr' => ?_
    obtain ⟨t', ht', hq'⟩ := hG f c' s' H1 Q (fun E H' Q' => t E σ H' Q') (fun W pn xe E p1 p2 tk hW => pe_act (i := 0) I1 L hf hfn hfr (hbind _ _ _ _ _) tk hW hr' (fun A outer s H hr2 => hbody A outer s H E f c' hr2) hNg hva hd hcd) hco (h H1 eN T1)
    exact ⟨t', ht'.nox, hq'⟩
  · match r, hq with
    | .ok (.ret u), hq => exact I1.after hq
    | .ok .next, hq => exact False.elim hq
    | .ok .brk, hq => exact False.elim hq
    | .ok .cont, hq => exact False.elim hq
    | .error e, hq => exact (show False from hq).elim
end
end Ly
namespace Ly
open PySem PySem.Spec PyProof.Rows L2
abbrev Su := Addr → Value → Option Addr → TS
def wAsM (K : PySem.W.Frag) (Wout : WX) (D : Ends) (i : Nat) : List (Value × Su) → WX
  | [] => Wout
  | (c, ts) :: r => wAs K c i ts (wAsM K Wout D i r) D
inductive HdsAs (X : Cx) (n : Str) : List ExceptHandler → List (Value × Su) → Prop
  | nil : HdsAs X n [] []
  | cons {x : Str} {c : Value} {ts : Su} {b₀ : Stmt} {suite : List Stmt} {np pos' : Pos} {hds : List ExceptHandler} {l : List (Value × Su)} (hc : Names X x c)
      (hsu : ∀ (a : Addr) (oe : Obj) (cls : Value) (d : Option Addr) (pn : List (Addr × Obj)), Zc cls d oe → (∃ vs, oe.data = .fields vs) → PSs (X.suite a ((a, oe) :: pn)) (b₀ :: suite) (ts a cls d)) (r : HdsAs X n hds l) :
      HdsAs X n (.ExceptHandler (some (.Name x np)) (some n) (b₀ :: suite) pos' :: hds) ((c, ts) :: l)
section
variable {X : Cx} {n : Str} {i : Nat} {body : List Stmt} {h₀ : ExceptHandler} {hds : List ExceptHandler} {l : List (Value × Su)} {pos : Pos} {tb : WX → TS} {Wout : WX}
theorem ps_try_asM (hs : X.stack = X.env :: X.outer) (hf : X.env.frame = some X.env.locals) (hN : X.N.Nodup) (hi : X.N[i]? = some n) (hln : X.env.kindOf n = some .local) (tk : Takes X Wout)
    (hb : ∀ (W : WX) (pn : List (Addr × Obj)) (xe : Value → Shared → Prop), Takes (X.tr pn xe) W → PassesOwn (model X.prog X.w) X.A X.env xe → PSs (X.tr pn xe) body (tb W)) (hh : HdsAs X n (h₀ :: hds) l) :
    PS X (.Try body (h₀ :: hds) [] [] pos) (fun D σ H => tb (wAsM X.K Wout D i l) D σ H) := by
  refine ⟨fun pins s σ H D I h => ?_⟩
  have ok := I.ok
  have hfr : X.A.frames = some (X.env :: X.outer) := ok.frames.trans (by rw [hs])
  refine wpAny_Try_except (wpAny_mono ((hb (wAsM X.K Wout D i l) (X.pn ++ pins) (fun e s₁ => wpAny (model X.prog X.w) X.A (noteFrame e X.env) (fun _ s₂ => wpAny (model X.prog X.w) X.A (setFlight e none) (fun _ s₃ =>
    wpAny (model X.prog X.w) X.A (handleBy e X.env (h₀ :: hds)) (SP X pins D) X.xe s₃) X.xe s₂) X.xe s₁) (fun u s' xx => ?_) PassesOwn.looking).run [] s σ H D (I.toTry _) h) (fun f s1 hsp => ?_) (fun e s1 he => he))
  · obtain ⟨a, B, sI, pins', σ', H', cls, d, rfl, J', nb, up, sky, na, os, ag, w⟩ := xx
    have J := J'.ofTry ok
    rw [hs] at sky
    refine (Sky.land Zc.steady hfr hf sky fun h3 fl3 up3 => ?_ : wpAny (model X.prog X.w) X.A (noteFrame (.ref a) X.env) _ _ _)
    have J3 : Inv X pins σ' H' { s' with heap := h3 } := J.landed nb fl3.1 (up.trans up3) os ag
    obtain ⟨oe3, vs3, he3, hz3, hd3⟩ := fl3.there
    have nfr : a ∉ frs (X.env :: X.outer) := fun hm => by
      obtain ⟨_, o', e', hnf⟩ := fl3.2.2.1.mem hm
      rw [he3] at e'
      cases e'
      exact hnf _ hd3
    have nL : a ≠ X.env.locals := fun z => nfr (List.mem_filterMap.mpr ⟨X.env, .head _, by rw [hf, z]⟩)
    have nF : a ∉ X.fs := fun hm => by
      obtain ⟨e, he, q⟩ := List.mem_filterMap.mp hm
      exact nfr (List.mem_filterMap.mpr ⟨e, .tail _ he, q⟩)
    have S3 := J3.suite he3 hd3 na nL nF
    have go : ∀ {hds' : List ExceptHandler} {l' : List (Value × Su)}, HdsAs X n hds' l' → wAsM X.K Wout D i l' cls d σ' H' → wpAny (model X.prog X.w) X.A (handleBy (.ref a) X.env hds') (SP X pins D) X.xe { s' with heap := h3 } := by
      intro hds' l' hk
      induction hk with
      | nil =>
        intro w
        refine wpAny_handleBy_nil ?_
        obtain ⟨k1, k2, k3, oe, vs, T, oT, ts', he, hz, hd, h1, hr⟩ := _root_.id fl3
        unfold PySem.passOn
        refine wpAny_bind (wpAny_field he hd h1 ?_)
        rw [if_neg (show ¬ ((Value.ref T == Value.none) = true) by simp)]
        have fin : wpAny (model X.prog X.w) X.A (setFlight (.ref a) X.env.frame) (fun _ s4 => wpAny (model X.prog X.w) X.A (throw (.ref a) : Sem Flow) (SP X pins D) X.xe s4) X.xe { s' with heap := h3 } := by
          rw [hf]
          refine HandSPX.setFlight_upZ fl3 fun h4 hh4 up4 => wpAny_throw (tk _ _ ⟨a, B, sI, pins, σ', H', cls, d, rfl, J, nb, (up.trans up3).trans up4, .inr (.inr ?_), na, os, ag, w⟩)
          rw [hs]
          exact hh4
        first | exact wpAny_bind (wpAny_pure (wpAny_bind fin)) | exact wpAny_bind fin
      | @cons x c ts b₀ suite np pos' hds2 l2 hc hsu r ih =>
        intro w
        obtain ⟨b, hb1, hyes, hno⟩ := (show wAs X.K c i ts (wAsM X.K Wout D i l2) D cls d σ' H' from w)
        refine wpAny_handleBy_cons (codeAny_handlers_test ?_) (fun q => by cases q)
        have LT : PySem.W.Looks (model X.prog X.w) h3 (typeOf (.ref a)) cls := fun A Q E s k q => wpAny_typeOf_ref (k _ _ he3) (hz3.1 ▸ q)
        have LM := PySem.W.exm_one (M := model X.prog X.w) J3.kIn LT hb1
        have test : ∀ {Q : Value → Shared → Prop} {E : Value → Shared → Prop}, Q c { s' with heap := h3 } → wpAny (model X.prog X.w) (X.A.mark (some (.ref a))) (eval (.Name x np) X.env) Q E { s' with heap := h3 } := fun {Q E} q => by
          obtain ⟨hg, hdbg, hm | ⟨hm, hv, hnn⟩⟩ := hc
          · exact ld_glob (X := X.suite a ((a, oe3) :: (X.pn ++ pins))) S3 hg hm q hdbg
          · exact ld_blt (X := X.suite a ((a, oe3) :: (X.pn ++ pins))) S3 hg hm hv q hnn hdbg
        refine test (LM.here ?_)
        cases b with
        | false => exact (ih (hno rfl) : wpAny _ X.A (handleBy (.ref a) X.env hds2) _ _ _)
        | true =>
          refine codeAny_handlers_suite_as (HandSPX.lands_againZ fl3 fun h4 fl4 up4 => ?_)
          have J4 : Inv X pins σ' H' { s' with heap := h4 } := J.landed nb fl4.1 ((up.trans up3).trans up4) os ag
          obtain ⟨oe4, vs4, he4, hz4, hd4⟩ := fl4.there
          have S4 := J4.suite he4 hd4 na nL nF
          refine store_ok (X := X.suite a ((a, oe4) :: (X.pn ++ pins))) (v := .ref a) S4 hN hi (.inl hln) rfl (fun s5 S5 => wpAny_mono ((hsu a oe4 cls d (X.pn ++ pins) hz4 ⟨_, hd4⟩).run [] s5 _ H' _ S5 (hyes rfl a na)) (fun f s6 hsp => ?_) (fun _ _ z => False.elim z)) (.inr hln)
          have close : ∀ {σ6 : L2.St} {H6 : Hp} {Q : Shared → Prop}, Inv (X.suite a ((a, oe4) :: (X.pn ++ pins))) [] σ6 H6 s6 → (∀ s7, Inv X pins (σ6.set i none) H6 s7 → Q s7) →
              wpAny (model X.prog X.w) X.A (do bindName X.env n .none; unbindBehindTheSuite X.env n pos') (fun _ s7 => Q s7) X.xe s6 := fun {σ6 H6 Q} S6 hq => gone_ok (S6.unsuite ok) hN hi hln hq
          cases f with
          | ret u =>
            obtain ⟨v6, σ6, H6, S6, r6, q6⟩ := hsp
            exact close S6 fun s7 J7 => ⟨_, _, _, J7, r6, q6⟩
          | next =>
            obtain ⟨σ6, H6, S6, q6⟩ := hsp
            exact close S6 fun s7 J7 => ⟨_, _, J7, q6⟩
          | brk =>
            obtain ⟨σ6, H6, S6, q6⟩ := hsp
            exact close S6 fun s7 J7 => ⟨_, _, J7, q6⟩
          | cont =>
            obtain ⟨σ6, H6, S6, q6⟩ := hsp
            exact close S6 fun s7 J7 => ⟨_, _, J7, q6⟩
    exact go hh w
  · cases f with
    | ret u =>
      obtain ⟨v, σ', H', J', r, q⟩ := hsp
      exact ⟨v, σ', H', J'.ofTry ok, r, q⟩
    | next =>
      obtain ⟨σ', H', J', q⟩ := hsp
      exact wpAny_execs_nil ⟨σ', H', J'.ofTry ok, q⟩
    | brk =>
      obtain ⟨σ', H', J', q⟩ := hsp
      exact ⟨σ', H', J'.ofTry ok, q⟩
    | cont =>
      obtain ⟨σ', H', J', q⟩ := hsp
      exact ⟨σ', H', J'.ofTry ok, q⟩
end
end Ly
namespace Ly
open PySem PySem.Spec PyProof.Rows L2 LamX
theorem takes_len {X : Cx} {W : WX} (tk : Takes X W) : Takes X fun cls d σ H => σ.length = X.N.length → W cls d σ H := fun u s' ⟨a, B, sI, pins, σ, H, cls, d, e, I, nb, up, sky, na, os, ag, w⟩ =>
  tk u s' ⟨a, B, sI, pins, σ, H, cls, d, e, I, nb, up, sky, na, os, ag, w I.len⟩
/-- try: a() .. : a is the thing at f, tl its reading -/
def tAct (f c' : Addr) (q : Str) (n : Nat) (tl : XK → Hp → VK → Prop) (W : WX) : TS := fun D σ H => σ[0]? = some (some (.ref f)) ∧ H c' = some (CodeO c' q) ∧ tl (fun cls d H' => ∀ σ' : L2.St, σ'.length = n → W cls d σ' H') H fun _ H' => D.nx σ H'
def tTry (K : PySem.W.Frag) (f c' : Addr) (q : Str) (n i : Nat) (tl : XK → Hp → VK → Prop) (l : List (Value × Su)) : TS := fun D σ H => tAct f c' q n tl (wAsM K (fun _ _ _ _ => False) D i l) D σ H
end Ly
namespace Dt
open PySem PySem.Spec PyProof.Rows L2 Ly LamX
/-- the names, where more is set apart -/
theorem Ev.up {π : Po} {X X' : Xs} {H H' : Hp} {σ : L2.St} {δ : List Rv} (sub : ∀ p, X p → X' p) (k : Kp π H H') (m : Mo (cut X H) (cut X' H')) (e : Ev π X H σ δ) : Ev π X' H' σ δ := by
  refine ⟨e.len, fun i r o h1 h2 => ?_, e.nd⟩
  have a := e.at_ i r o h1 h2
  cases r with
  | un => trivial
  | d x => obtain ⟨v, e, a⟩ := a; exact ⟨v, e, a.mono m⟩
  | own q x => obtain ⟨v, e, e2, xq, nq, t⟩ := a; exact ⟨v, e, e2, sub q xq, nq, ato_keepX (fun u e => k.keep q u nq e) m t⟩
  | new x => obtain ⟨v, e, q, e2, nq, t⟩ := a; exact absurd nq t.some
  | pot => exact a
  | raw w => exact a
  | ex a0 dd fds => obtain ⟨v, e, a⟩ := a; exact ⟨v, e, Exat.mono m a⟩
  | cl i as cs => obtain ⟨v, e, a1, a2, b⟩ := a; exact ⟨v, e, a1, fun q mq => ⟨sub q (a2 q mq).1, (a2 q mq).2⟩, b.keep (fun q mq u e => k.keep q u (a2 q mq).2 e) m⟩
  | ncl i cs => obtain ⟨v, e, as, ⟨q, hq, _⟩, n, b⟩ := a; exact absurd (n q (List.mem_of_getElem? hq)) (b.ex (List.mem_of_getElem? hq))
theorem ev_uns {π : Po} {X : Xs} {H : Hp} {σ : L2.St} {n : Nat} (h : σ.length = n) : Ev π X H σ (uns n) := by
  refine ⟨by unfold uns; rw [List.length_replicate, h], fun i r o h1 h2 => ?_, fun i j r s p h1 h2 a1 a2 => ?_⟩
  · unfold uns at h1
    rw [List.getElem?_replicate] at h1
    split at h1
    · cases h1; trivial
    · cases h1
  · unfold uns at h1
    rw [List.getElem?_replicate] at h1
    split at h1
    · cases h1; cases a1
    · cases h1
theorem Ev.unset {π : Po} {X : Xs} {H : Hp} {σ : L2.St} {δ : List Rv} {i : Nat} (e : Ev π X H σ δ) : Ev π X H (σ.set i none) (δ.set i .un) := by
  refine ⟨by rw [List.length_set, List.length_set]; exact e.len, fun j r o h1 h2 => ?_, fun j l r s p h1 h2 a1 a2 => ?_⟩
  · rcases set_get h1 with ⟨_, rfl⟩ | ⟨n, h1⟩
    · trivial
    · rcases set_get h2 with ⟨z, _⟩ | ⟨_, h2⟩
      · exact absurd z n
      · exact e.at_ j r o h1 h2
  · rcases set_get h1 with ⟨_, rfl⟩ | ⟨_, h1⟩
    · cases a1
    · rcases set_get h2 with ⟨_, rfl⟩ | ⟨_, h2⟩
      · cases a2
      · exact e.nd j l r s p h1 h2 a1 a2
/-- what the thing that is called may be counted on -/
def TL (π : Po) (X : Xs) (H : Hp) (tl : XK → Hp → VK → Prop) (kx : Kx) (norm : Prop) : Prop :=
  ∀ (X' : Xs) (H1 : Hp) (E : XK) (Q : VK), Ok π X' H1 → (∀ σ δ, Ev π X H σ δ → Ev π X' H1 σ δ) → XcAt π X' H1 kx E → (∀ v r H', Kp π H1 H' → RAt π X' H1 H' r v → norm → Q v H') → tl E H1 Q
/-- what the clauses make of an exception -/
def HM (π : Po) (K : PySem.W.Frag) (post : TS) (R : Rv → Prop) (n i : Nat) (C a dd : Addr) (fds : List (Str × D)) : List (Value × Su) → Prop
  | [] => False
  | (c, ts) :: r => ∃ b, PySem.W.exmOne K (.ref C) c = some b ∧ (b = true → Ws π (ts a (.ref C) (some dd)) { nx := fun δ => Ws π post { nx := fun _ => False, rt := R } (δ.set i .un), rt := R } ((uns n).set i (.ex a dd fds))) ∧ (b = false → HM π K post R n i C a dd fds r)
/-- the result -/
def TTo (K : PySem.W.Frag) (hand : Po → Kx → (Rv → Prop) → Prop) (norm : Po → (Rv → Prop) → Prop) : (XK → Hp → VK → Prop) → Hp → VK → Prop := fun tl H Q =>
  ∃ (π : Po) (X : Xs) (kx : Kx) (nm : Prop) (R : Rv → Prop), Ok π X H ∧ TL π X H tl kx nm ∧ (nm → norm π R) ∧ hand π kx R ∧ ∀ v r H', Kp π H H' → Fre r → RAt π X H H' r v → R r → Q v H'
section
variable {π : Po} {X : Xs} {H : Hp} {f c' : Addr} {q : Str} {N : List Str} {n i m : Nat} {tl : XK → Hp → VK → Prop} {pre post : TS} {l : List (Value × Su)} {kx : Kx} {nm : Prop} {R : Rv → Prop} {Q : VK} {K : PySem.W.Frag}
theorem hm_at {D : Ends} {X1 : Xs} {H2 : Hp} {C dd : Addr} {fs : List (Str × V)} {fds : List (Str × Dt.D)} (iv : Iv π H X (fun _ => none) X1 H2) (en : EndsOk π H X (fun _ => none) X1 H2 { nx := fun _ => False, rt := R } D) (hd : ¬ X1 dd) (h1 : H2 dd = some (.xd fs)) (h2 : fs.map (·.1) = fds.map (·.1)) (h3 : Ats (cut X1 H2) (fs.map (·.2)) (fds.map (·.2)))
    {σ : L2.St} (hl : σ.length = n) : ∀ {l : List (Value × Su)}, (∀ a, HM π K post R n i C a dd fds l) → wAsM K (fun _ _ _ _ => False) { D with nx := post D } i l (.ref C) (some dd) σ H2 := by
  intro l
  induction l with
  | nil => exact fun w => (w 0).elim
  | cons p r ih =>
    obtain ⟨c, ts⟩ := p
    intro w
    obtain ⟨b, hb, _⟩ := w 0
    refine ⟨b, hb, fun hy a ha => ?_, fun hn => ih fun a => ?_⟩
    · obtain ⟨b', hb', g, _⟩ := w a
      rw [hb] at hb'
      cases hb'
      have ev : Ev π X1 H2 (σ.set i (some (.ref a))) ((uns n).set i (.ex a dd fds)) := (ev_uns hl).put (fun _ _ z => z) ⟨.ref a, rfl, rfl, fs, cut_of hd h1, h2, h3⟩ fun p e => e.elim
      refine g hy H X (fun _ => none) X1 H2 _ _ iv ev (Own0.put (fun j r p h e => ?_) fun p e => e.elim) ⟨fun X3 H3 σ3 δ3 iv3 ev3 ow3 f3 z => ?_, fun X3 H3 σ3 δ3 iv3 ev3 ow3 f3 z => z.elim, fun X3 H3 σ3 δ3 iv3 ev3 ow3 f3 z => z.elim, fun X3 H3 v r iv3 f3 no ra z => en.rt X3 H3 v r iv3 f3 no ra z, fun _ _ _ _ _ _ _ _ _ _ z => z.elim, fun _ _ => rfl⟩
      · unfold uns at h
        rw [List.getElem?_replicate] at h
        split at h
        · cases h; cases e
        · cases h
      · exact z H X (fun _ => none) X3 H3 _ D iv3 ev3.unset (ow3.put fun p e => e.elim) ((en.fr f3))
    · obtain ⟨b', hb', _, g⟩ := w a
      rw [hb] at hb'
      cases hb'
      exact g hn
theorem told_run (hm : N.length - 1 = m) (hn : N.length = n) (ok : Ok π X H) (hc : H c' = some (CodeO c' q)) (T : TL π X H tl kx nm)
    (hpre : Ws π pre { nx := fun δ => δ[0]? = some (.raw (.ref f)) ∧ (nm → Ws π post { nx := fun _ => False, rt := R } δ), rt := fun _ => False } (.raw (.ref f) :: uns m))
    (hx : ∀ C fds, kx C fds → ∀ a dd, HM π K post R n i C a dd fds l) (hq : ∀ v r H', Kp π H H' → Fre r → RAt π X H H' r v → R r → Q v H') :
    tSeq pre (tSeq (tTry K f c' q n i tl l) post) { nx := fun _ H' => Q .non H', rt := Q } (L2.start N [.ref f]) H := by
  have iv0 : Iv π H X (fun _ => none) X H := ⟨ok, ok, by rw [undo_none]; exact ok.kp, fun _ x => x, fun a u e => (by cases e), fun _ x => x⟩
  have ev0 : Ev π X H (L2.start N [.ref f]) (.raw (.ref f) :: uns m) := Ev.start (rs := [.raw (.ref f)]) ⟨rfl, trivial⟩ rfl hm
  have en0 : EndsOk π H X (fun _ => none) X H { nx := fun _ => False, rt := R } { nx := fun _ H' => Q .non H', rt := Q } := ⟨fun _ _ _ _ _ _ _ _ z => z.elim, fun _ _ _ _ _ _ _ _ z => z.elim, fun _ _ _ _ _ _ _ _ z => z.elim, fun X' H' v r iv _ no a w => by
    have z := iv.kp
    rw [undo_none] at z
    exact hq v r H' z no a w, fun _ _ _ _ _ _ _ _ _ _ z => z.elim, fun _ _ => rfl⟩
  have ncm : ¬ Mu π c' := fun z => by
    obtain ⟨_, s1, s2⟩ := ok.pot c' z
    rcases z with z | ⟨s, z⟩
    · obtain ⟨a, b, h, _⟩ := s1 z
      rw [h] at hc
      cases hc
    · obtain ⟨ps, h, _⟩ := s2 s z
      rw [h] at hc
      exact codeO_ne ps (Option.some.inj hc).symm
  refine hpre H X (fun _ => none) X H _ _ iv0 ev0 (own_args (rs := [.raw (.ref f)]) rfl) ⟨fun X1 H1 σ1 δ1 iv1 ev1 ow1 f1 w => ?_, fun _ _ _ _ _ _ _ _ z => z.elim, fun _ _ _ _ _ _ _ _ z => z.elim, fun _ _ _ _ _ _ _ _ z => z.elim, fun _ _ _ _ _ _ _ _ _ _ z => z.elim, fun _ _ => rfl⟩
  obtain ⟨h0, hp⟩ := w
  have k1 : Kp π H H1 := by
    have z := iv1.kp
    rw [undo_none] at z
    exact z
  obtain ⟨v0, e0, ev⟩ := ev1.get h0 (fun z => by cases z)
  cases ev
  refine ⟨e0, k1.keep c' _ ncm hc, ?_⟩
  refine T X1 H1 _ _ iv1.ok (fun σ δ e => e.up iv1.sub k1 f1.mo) (fun H2 C dd fs fds k2 hd h1 h2 h3 h4 σ' hl => ?_) fun v r H2 k2 ra hnm => ?_
  · exact hm_at (D := { nx := fun _ H' => Q .non H', rt := Q }) (iv1.keep k2) (en0.fr (f1.trans (iv1.ok.fr k2))) (fun z => iv1.ok.dom dd z hd) h1 h2 h3 hl fun a => hx C fds h4 a dd
  · exact hp hnm H X (fun _ => none) X1 H2 σ1 _ (iv1.keep k2) (ev1.keep iv1.ok k2) ow1 (en0.fr (f1.trans (iv1.ok.fr k2)))
/-- x(lambda: e) -/
theorem w_told {P : Addr} {δ : List Rv} {t : XK → TE} {k : Rv → Prop} {hand : Po → Kx → (Rv → Prop) → Prop} {norm : Po → (Rv → Prop) → Prop} (hP : (P, q) ∈ π.tabs) (hu : ∀ s, (P, s) ∈ π.tabs → s = q) (hT : ∀ E, WpX π E kx (t E) δ fun _ => nm) (hnm : nm → norm π k) (hh : hand π kx k) :
    Wp π (tLamS P q (TTo K hand norm) t) δ k := fun X H σ Q o e h => by
  have hM : Mu π P := .inr ⟨q, hP⟩
  refine ⟨(o.pot P hM).2.2 q hP, fun H1 hk1 T1 => ?_⟩
  have k1 : Kp π H H1 := ⟨fun a u n e => hk1 a u (fun z => n (z ▸ hM)) e, fun p hp => by
    obtain ⟨_, s1, s2⟩ := o.pot p hp
    obtain ⟨ps0, hP0, _⟩ := (o.pot P hM).2.2 q hP
    refine ⟨fun e => ?_, fun s hs => ?_⟩
    · obtain ⟨a, b, h', z⟩ := s1 e
      exact ⟨a, b, hk1 p _ (fun z => by rw [z, hP0] at h'; cases h') h', z⟩
    · by_cases hpP : p = P
      · subst hpP
        rw [hu s hs]
        exact T1
      · obtain ⟨ps, e1, e2, e3⟩ := s2 s hs
        refine ⟨ps, hk1 p _ hpP e1, e2, fun pos cv hc => ?_⟩
        obtain ⟨c, g1, g2⟩ := e3 pos cv hc
        refine ⟨c, g1, hk1 c _ (fun z => ?_) g2⟩
        rw [z, hP0] at g2
        exact codeO_ne ps0 (Option.some.inj g2).symm⟩
  refine ⟨π, X, kx, nm, k, o.keep k1, fun X' H2 E Q' o2 up xc q' => ?_, hnm, hh, fun v r H' k2 no ra kr => ?_⟩
  · exact hT E X' H2 σ Q' o2 (up σ δ (e.keep o k1)) xc fun v r H' k2 ra hn => q' v r H' k2 ra hn
  · exact h v r H' (k1.trans k2) (ra.base o k1) kr
end
end Dt
namespace PySem
open PySem.Spec PyProof.Rows
open AutoSeq1 (wpAny_loadPart')
theorem meets_enum_one {v : Value} {o : Obj} {H : Heap → Prop} (B : Begins v o H) :
    Meets (Builtin.«enumerate.__new__» ⟨[.type "enumerate", v], []⟩) (fun _ R s => H s.heap ∧
      R (.ok (.ret (.ref (s.heap.push o).objs.size))) { s with heap := (s.heap.push o).push { cls := .type "enumerate", data := .fields #[.none, .bool false, .ref s.heap.objs.size, rawInt 0, .none, .none] } }) :=
  .of_wp fun prog w A R s h => by
    obtain ⟨hp, g, d, tk, os⟩ := s
    obtain ⟨h1, h⟩ := h
    have hsub := sub_enumerate
    have q1 : ∀ {A' : Around} {E : Value → Shared → Prop} {Q : Value → Shared → Prop}, Q (.ref hp.objs.size) ⟨hp.push o, g, d, tk, os⟩ → wpAny (model prog w) A' (pyIter v) Q E ⟨hp, g, d, tk, os⟩ :=
      fun q => B.iter prog w _ _ ⟨hp, g, d, tk, os⟩ _ h1 q
    wp_walk using q1
    refine wpAny_stack_any fun st => wpAny_pure ?_
    split
    · rename_i c _ _ _ _ _
      cases (c == Value.type "enumerate") <;> (wp_walk using q1; exact ⟨_, rfl, h⟩)
    · wp_walk using q1
      exact ⟨_, rfl, h⟩
theorem call_enum_one {prog : Program} {w : World} {A : Around} {E : Value → Shared → Prop} {s : Shared} {v : Value} {o : Obj} {H : Heap → Prop} {Q : Value → Shared → Prop} (B : Begins v o H) (h1 : H s.heap)
    (h : ∀ h', IsEnum h' (s.heap.objs.size + 1) s.heap.objs.size 0 .none → h'.get? s.heap.objs.size = some o → h'.objs.size = s.heap.objs.size + 2 →
      (∀ b o, s.heap.get? b = some o → h'.get? b = some o) → Q (.ref (s.heap.objs.size + 1)) { s with heap := h' }) :
    wpAny (model prog w) A (call (.type "enumerate") [v]) Q E s := by
  refine callType_new F.called_enumerate (by decide) (F.typeCall_enumerate_1 _) (F.newCall_enumerate_1 _) (fun obj => F.args_object_init_2 obj _) F.entry_enumerate_new (meets_enum_one B) ⟨h1, ?_⟩
  have hz : (s.heap.push o).objs.size = s.heap.objs.size + 1 := Heap.size_push ..
  show _ ∧ _
  rw [hz]
  have he : IsEnum ((s.heap.push o).push { cls := .type "enumerate", data := .fields #[.none, .bool false, .ref s.heap.objs.size, rawInt 0, .none, .none] }) (s.heap.objs.size + 1) s.heap.objs.size 0 .none := by
    have := Heap.get?_push_size (s.heap.push o) (o := { cls := .type "enumerate", data := .fields #[.none, .bool false, .ref s.heap.objs.size, rawInt 0, .none, .none] }) rfl
    rw [hz] at this; exact this
  exact ⟨⟨_, he, rfl⟩, h _ he (Heap.get?_push_of_some _ (Heap.get?_push_size _ B.free)) (by rw [Heap.size_push, hz]) fun b o x => Heap.get?_push_of_some _ (Heap.get?_push_of_some _ x)⟩
end PySem
namespace Ly
open PySem PySem.Spec PyProof.Rows L2
/-- the tuple at a (n items), each item in a new pair -/
def Itte (K : PySem.W.Frag) (a : Addr) (n : Nat) : L2.It :=
  ⟨fun i H => ∃ (xs : List V) (x : V), SqT K H a xs ∧ xs.length = n ∧ xs[i]? = some x, fun i H v H' => ∃ T x, v = .ref T ∧ H T = none ∧ H' = upd H T (.tup [.int (i : Nat), x]) ∧ ∀ xs, SqT K H a xs → xs[i]? = some x, fun i H => ∃ xs : List V, SqT K H a xs ∧ xs.length = n ∧ n ≤ i⟩
theorem turn_enumT {P : Program} {w : World} {K : PySem.W.Frag} {elts : List Expr} {kk : Nat} {tpos : Pos} (a e it : Addr) (n : Nat) :
    Turn P w K (.Tuple elts kk tpos) (Itte K a n) [e, it] e (fun i h => (∃ old, IsEnum h e it ((i : Nat) : Int) old) ∧ h.IsTupleIter it a i ∧ e ≠ it ∧ i ≤ n) where
  mem := by simp
  obj := fun i h st b hb => by
    obtain ⟨⟨old, he⟩, ⟨o, ho, hc, hd⟩, _⟩ := st
    have e' : b = e ∨ b = it := by simpa using hb
    rcases e' with rfl | rfl
    · exact ⟨_, he, fun v q => nomatch q⟩
    · exact ⟨o, ho, fun v q => by rw [hd] at q; cases q⟩
  keep := fun i h h' st k => let ⟨⟨old, he⟩, hi, hne, hn⟩ := st; ⟨⟨old, k e (by simp) _ he⟩, hi.at fun o q => k it (by simp) o q, hne, hn⟩
  item := by
    intro X hP hw hK hc i pins s σ H E I hf st hg
    subst hP hw hK
    obtain ⟨⟨old, he⟩, hit, hne, hn⟩ := st
    obtain ⟨xs, x, hq, hlen, hx⟩ := hg
    obtain ⟨its, rv, p, hz⟩ := I.tuple hq
    obtain ⟨u, hu, ru⟩ := rv.get hx
    have pa : s.heap.IsTuple a its.toArray := p
    have hel : e < s.heap.objs.size := Heap.lt_size he
    have hil : it < s.heap.objs.size := by obtain ⟨_, q, _⟩ := hit; exact Heap.lt_size q
    have nit : a ≠ it := fun z => by
      obtain ⟨o1, q1, c1, _⟩ := pa
      obtain ⟨o2, q2, c2, _⟩ := hit
      rw [z, q2] at q1
      cases q1
      rw [c2] at c1
      exact absurd (Value.type.inj c1) (by decide)
    have nea : e ≠ a := fun z => by
      obtain ⟨o1, q1, c1, _⟩ := pa
      have he2 : s.heap.get? e = _ := he
      rw [← z, he2] at q1
      cases q1
      exact absurd (Value.type.inj c1) (by decide)
    have hlt : i < its.toArray.size := by
      have := (List.getElem?_eq_some_iff.mp hu).1
      simpa using this
    have D := Draws.tuple (prog := X.prog) (w := X.w) (A := X.A.in1) (I.ok.hd hc) it a nit its.toArray
    refine wpAny_pyNext_enum_itemD D he ⟨hit, pa⟩ hlt hne (by simp [hne, nea]) fun x' h' tk hP ho hst' hT hsz hk => ?_
    have ex : x' = u := by
      have h2 : its.toArray[i]? = some u := by simpa using hu
      rw [h2] at hP
      exact (Option.some.inj hP).symm
    subst ex
    refine ⟨_, rfl, wpAny_letOwnedTupleGo_enum (s := { s with heap := h', toks := tk + 1 }) ho fun h'' he' sb => ?_⟩
    have hT2 : h''.get? s.heap.objs.size = some { cls := .type "tuple", data := .seq #[.int i tk, x'] } := (sb.2 _ (Nat.ne_of_gt hel)).trans hT
    have new : ObjOk X.prog X.w (upd H s.heap.objs.size (.tup [.int (i : Nat), x])) h'' s.heap.objs.size (.tup [.int (i : Nat), x]) :=
      ⟨by show 2 ≤ sizeLine; decide, [.int i tk, x'], .cons ⟨_, rfl⟩ (.cons ru .nil), ⟨_, hT2, rfl, _, rfl⟩⟩
    have I1 : Inv X pins σ (upd H s.heap.objs.size (.tup [.int (i : Nat), x])) { s with heap := h'', toks := tk + 1 } :=
      I.turnedNew (ch := [e, it]) (fun b ob hb q => (sb.2 b (fun z => hb (by simp [z]))).trans (hk b ob (fun z => hb (by simp [z])) (fun z => hb (by simp [z])) q)) hf (Nat.le_refl _) new
    refine ⟨.ref s.heap.objs.size, _, I1, rfl, ⟨_, x, rfl, I.hok.fresh (Nat.le_refl _), rfl, fun ys hy => by rw [I.tuple_inj hy hq]; exact hx⟩, ⟨⟨x', ?_⟩, hst'.1.at fun o q => (sb.2 it (Ne.symm hne)).trans q, hne, ?_⟩, fun b hb => ?_⟩
    · have e1 : ((i + 1 : Nat) : Int) = (i : Int) + 1 := by omega
      rw [e1]; exact he'
    · have := (List.getElem?_eq_some_iff.mp hx).1
      omega
    · have hb' : b < s.heap.objs.size := by
        have e' : b = e ∨ b = it := by simpa using hb
        rcases e' with rfl | rfl
        · exact hel
        · exact hil
      rw [upd_ne (Nat.ne_of_lt hb')]
      exact (hf b hb).1
  done := by
    intro X hP hw hK hc i pins s σ H E I hf st hg
    subst hP hw hK
    obtain ⟨⟨old, he⟩, hit, hne, hn⟩ := st
    obtain ⟨xs, hq, hlen, hx⟩ := hg
    obtain ⟨its, rv, p, hz⟩ := I.tuple hq
    have pa : s.heap.IsTuple a its.toArray := p
    have nit : a ≠ it := fun z => by
      obtain ⟨o1, q1, c1, _⟩ := pa
      obtain ⟨o2, q2, c2, _⟩ := hit
      rw [z, q2] at q1
      cases q1
      rw [c2] at c1
      exact absurd (Value.type.inj c1) (by decide)
    obtain ⟨f0, f1, f2, f3, f4, f5⟩ := hf it (by simp)
    have hl := rv.length
    have ei : i = its.toArray.size := by simp; omega
    have D := Draws.tuple (prog := X.prog) (w := X.w) (A := X.A.in1) (I.ok.hd hc) it a nit its.toArray
    exact wpAny_pyNext_enum_endD D he (ei ▸ ⟨hit, pa⟩) fun h' eb => ⟨rfl, I.turned (t' := s.toks) (fun b o hb q => eb b o hb q) f0 f1 f3 f4 f5⟩
  self := fun A i s Q E st h => let ⟨⟨_, he⟩, _⟩ := st; wpAny_pyIter_enum he h
def iEnumT (K : PySem.W.Frag) (ta : TA) : TI := fun σ H R => ta σ H fun vs H1 => ∃ a xs, vs = [.ref a] ∧ SqT K H1 a xs ∧ R (Itte K a xs.length) H1
theorem pi_enumT {X : Cx} {K : PySem.W.Frag} {e : Expr} {ta : TA} {p pos tpos : Pos} {elts : List Expr} {kk : Nat} (hK : X.K = K) (hg : Gl X "enumerate") (hm : X.mg "enumerate" = none) (ha : PA X [e] ta) (hs : starEach [e] X.env = [(false, eval e X.env)] := by rfl) :
    PI X (.Tuple elts kk tpos) (.Call (.Name "enumerate" p) [e] [] pos) (iEnumT K ta) := by
  subst hK
  refine ⟨fun pins s σ H R I h => ?_⟩
  refine Call_ (ld_blt I hg hm boot_enumerate (PyProof.Rows.callWith_type1 (thn (ha.run pos pins s σ H _ I h) fun us s1 ⟨vs, H1, I1, r1, q1⟩ => ?_) hs rfl))
  obtain ⟨a, xs, ex, hq, q⟩ := q1
  subst ex
  cases r1 with
  | cons r rr =>
    cases rr
    cases r
    obtain ⟨its, rv, p', hz⟩ := I1.tuple hq
    refine call_enum_one (begins_tuple a its.toArray) (show s1.heap.IsTuple a its.toArray from p') fun h' he hit hsz hk => wpAny_pyIter_enum he ?_
    have I2 : Inv X pins σ H1 { s1 with heap := h' } := I1.kept (t' := s1.toks) hk
    refine ⟨s1.heap.objs.size + 1, [s1.heap.objs.size + 1, s1.heap.objs.size], _, _, H1, rfl, I2, turn_enumT a (s1.heap.objs.size + 1) s1.heap.objs.size xs.length, ⟨⟨.none, he⟩, ⟨_, hit, rfl, rfl⟩, Nat.succ_ne_self _, Nat.zero_le _⟩, fun b hb => ?_, q⟩
    have hle : s1.heap.objs.size ≤ b := by
      have e' : b = s1.heap.objs.size + 1 ∨ b = s1.heap.objs.size := by simpa using hb
      rcases e' with rfl | rfl
      · exact Nat.le_add_right _ _
      · exact Nat.le_refl _
    exact I1.fpOk hle (I1.hok.fresh hle)
end Ly
namespace Dt
open PySem PySem.Spec PyProof.Rows L2 Ly
def enD (ds : List D) : List D := ds.mapIdx fun i d => .tup [.int i, d]
theorem enD_len (ds : List D) : (enD ds).length = ds.length := List.length_mapIdx
theorem enD_get {ds : List D} {i : Nat} {x : D} (h : (enD ds)[i]? = some x) : ∃ d, ds[i]? = some d ∧ x = .tup [.int i, d] := by
  unfold enD at h
  rw [List.getElem?_mapIdx] at h
  obtain ⟨d, h1, h2⟩ := Option.map_eq_some_iff.mp h
  exact ⟨d, h1, h2.symm⟩
section
variable {π : Po} {δ : List Rv} {K : PySem.W.Frag} {te : TE} {k : List D → Prop}
theorem wi_enumT (q : Wp π te δ fun r => ∃ ds, r = .d (.tup ds) ∧ k (enD ds)) : WpI π (iEnumT K (tCons te tNil)) δ k := fun X H σ R o e h => by
  refine q X H σ _ o e fun v r H1 k1 a w => ?_
  obtain ⟨ds, rfl, kk⟩ := w
  cases a with
  | @tup p ws _ e1 t1 =>
    refine ⟨p, ws, rfl, SqT.of (of_cut e1).2, h _ H1 (enD ds) k1 ⟨fun i X' H' f _ hi => ?_, fun i X' H' f _ hi => ?_⟩ kk⟩
    · have l1 : SqT K H' p ws := SqT.of (of_cut (f.mo.one _ _ e1 (fun _ z => by cases z) (fun _ z => by cases z) (fun _ _ z => by cases z))).2
      rw [enD_len] at hi
      obtain ⟨x, gx, ax⟩ := (t1.mono f.mo).get (List.getElem?_eq_getElem hi)
      refine ⟨⟨ws, x, l1, rfl, gx⟩, fun v H'' yl ok => ?_⟩
      obtain ⟨T, x', rfl, nT, rfl, h1⟩ := yl
      have ex := h1 _ l1
      rw [gx] at ex
      cases ex
      refine ⟨ok.kp.add ok nT, .tup [.int i, ds[i]], ?_, At.tup (cut_of (fun z => ok.dom T z nT) upd_same) (.cons (.int i) (.cons (ax.mono (up_mo' nT)) .nil))⟩
      unfold enD
      rw [List.getElem?_mapIdx, List.getElem?_eq_getElem hi]
      rfl
    · have l1 : SqT K H' p ws := SqT.of (of_cut (f.mo.one _ _ e1 (fun _ z => by cases z) (fun _ z => by cases z) (fun _ _ z => by cases z))).2
      rw [enD_len] at hi
      have g1 := t1.length
      exact ⟨ws, l1, rfl, by omega⟩
end
/-- behind `if c: ..` without else both ways go on from one place -/
theorem if_meet {π : Po} {t : TS} {k : Ke} {δ : List Rv} {b : Bool} {I : List Rv → Prop} (h1 : b = true → Ws π t { k with nx := I } δ) (h2 : b = false → I δ) (h3 : ∀ δ', I δ' → k.nx δ') : if b = true then Ws π t k δ else Ws π tNext k δ := by
  cases b with
  | true => rw [if_pos rfl]; exact ws_cut (h1 rfl) h3
  | false => rw [if_neg Bool.false_ne_true]; exact ws_next (h3 δ (h2 rfl))
def spT (T : List (Addr × Str)) (pt : Bool) (B : List Rv → (Rv → Prop) → Prop) : Sp := fun vs H Q _ => ∃ (π : Po) (X : Xs) (rs : List Rv) (k : Rv → Prop), π.pot.isSome = pt ∧ π.tabs = T ∧ Ok π X H ∧ rs.all isArg = true ∧ RAts π X H H rs vs ∧ B rs k ∧
  ∀ v r H', Kp π H H' → Fre r → RAt π X H H' r v → k r → Q v H'
theorem run_bodyT {T : List (Addr × Str)} {pt : Bool} {B : List Rv → (Rv → Prop) → Prop} {t : TS} {N : List Str} {m n : Nat} {vs : List V} {H : Hp} {Q : VK} {E : XK} (hm : N.length - n = m) (hB : ∀ rs k, B rs k → rs.length = n)
    (ht : ∀ (π : Po) (rs : List Rv) (k : Rv → Prop), π.pot.isSome = pt → π.tabs = T → B rs k → Ws π t { nx := fun _ => k (.d .non), rt := k } (rs ++ uns m)) (h : spT T pt B vs H Q E) : t { nx := fun _ H' => Q .non H', rt := Q } (L2.start N vs) H := by
  obtain ⟨π, X, rs, k, hp, hT, ok, ha, at_, b, q⟩ := h
  have hl := hB rs k b
  refine ht π rs k hp hT b H X (fun _ => none) X H _ _ ⟨ok, ok, by rw [undo_none]; exact ok.kp, fun _ x => x, fun a u e => (by cases e), fun _ x => x⟩ (Ev.start at_ ha (by rw [← at_.length, hl]; exact hm)) (own_args ha) ⟨fun X' H' σ δ iv _ _ _ w => ?_, fun X' H' σ δ iv _ _ _ w => w.elim, fun X' H' σ δ iv _ _ _ w => w.elim, fun X' H' v r iv _ no a w => ?_, fun _ _ _ _ _ _ _ _ _ _ z => z.elim, fun _ _ => rfl⟩
  · have z := iv.kp
    rw [undo_none] at z
    exact q .non (.d .non) H' z (fun _ z => z) At.non w
  · have z := iv.kp
    rw [undo_none] at z
    exact q v r H' z no a w
theorem body_T {T : List (Addr × Str)} {W : Wd} {k : Nat} {N : List Str} {qual : Str} {st : Stmt} {pt : Bool} {B : List Rv → (Rv → Prop) → Prop} {n m : Nat} (hm : N.length - n = m) (hB : ∀ rs k, B rs k → rs.length = n)
    (hb : ∀ (f : Addr) (cdv : Value) (A : Around) (outer : List Env) (s : Shared) (H : Hp) (E : XK), Room k (A.deeper (envOfC qual (defScope st) s.heap.objs.size f cdv)) → (A.deeper (envOfC qual (defScope st) s.heap.objs.size f cdv)).guards = some [] →
      ∃ t, PSs (cxOf CX0 W.P W.w W.K W.mg W.base N qual (defScope st) f cdv A outer s H E).nox (defBody st) t ∧ ∀ (π : Po) (rs : List Rv) (kr : Rv → Prop), π.pot.isSome = pt → π.tabs = T → B rs kr → Ws π t { nx := fun _ => kr (.d .non), rt := kr } (rs ++ uns m)) :
    BodyG W k N qual st (spT T pt B) := fun f cdv A outer s H vs Q E hr hg h => by
  obtain ⟨t, ps, w⟩ := hb f cdv A outer s H E hr hg
  exact ⟨t, ps, run_bodyT hm hB w h⟩
theorem len_T {T : List (Addr × Str)} {pt : Bool} {B : List Rv → (Rv → Prop) → Prop} {n : Nat} (hB : ∀ rs k, B rs k → rs.length = n) : ∀ vs H Q E, spT T pt B vs H Q E → vs.length = n := fun vs H Q E ⟨π, X, rs, k, _, _, _, _, at_, b, _⟩ => by rw [← at_.length]; exact hB rs k b
theorem clg_T {T : List (Addr × Str)} {W : Wd} {k : Nat} {x : Str} {st : Stmt} {N ps : List Str} {pt : Bool} {B : List Rv → (Rv → Prop) → Prop} (g : GF W.K W.mg x st) (S : FnScope N ps (defScope st)) (hb : BindOk x x st ps) (hB : ∀ rs k, B rs k → rs.length = ps.length) (hbody : BodyG W k N x st (spT T pt B)) : ClG W (k + 1) x (spT T pt B) :=
  clg_of g S hb (len_T hB) hbody
theorem wcb_T {π : Po} {T : List (Addr × Str)} {k : Rv → Prop} {B : List Rv → (Rv → Prop) → Prop} {as rs : List Rv} {E : XK} {pt : Bool} (hp : π.pot.isSome = pt) (hT : π.tabs = T) (hf : fzA as = some rs) (q : B rs k) : WCb π (fun vs H Q => spT T pt B vs H Q E) as k := fun X H0 H xs Q o0 o k0 a h =>
  ⟨π, X, rs, k, hp, hT, o, fzA_all hf, a.fzA o0 hf, q, fun v r H' k1 _ ra kr => h v r H' k1 (ra.base o0 k0) kr⟩
end Dt
namespace Ly
open PySem PySem.Spec PyProof.Rows L2
def tTryE (K : PySem.W.Frag) (n i : Nat) (te : XK → TE) (l : List (Value × Su)) : TS := fun D σ H => te (fun cls d H' => ∀ σ' : L2.St, σ'.length = n → wAsM K (fun _ _ _ _ => False) D i l cls d σ' H') σ H fun _ H1 => D.nx σ H1
theorem ps_tryE {X : Cx} {n : Str} {i : Nat} {e : Expr} {te : XK → TE} {h₀ : ExceptHandler} {hds : List ExceptHandler} {l : List (Value × Su)} {p pos : Pos} (hs : X.stack = X.env :: X.outer) (hf : X.env.frame = some X.env.locals) (hN : X.N.Nodup) (hi : X.N[i]? = some n) (hln : X.env.kindOf n = some .local)
    (he : ∀ (W : WX) (pn : List (Addr × Obj)) (xe : Value → Shared → Prop) (E : XK), Takes (X.tr pn xe) (fun cls d σ H => σ.length = X.N.length → W cls d σ H) → (∀ cls d (σ : L2.St) H, E cls d H → σ.length = X.N.length → W cls d σ H) → PE (X.tr pn xe) e (te E))
    (hw : swapsWith e none p.line X.env = pure false := by rfl) (hh : HdsAs X n (h₀ :: hds) l) : PS X (.Try [.Expr e p] (h₀ :: hds) [] [] pos) (tTryE X.K X.N.length i te l) :=
  ps_try_asM (tb := fun W => tDrop (te fun cls d H' => ∀ σ' : L2.St, σ'.length = X.N.length → W cls d σ' H')) hs hf hN hi hln LamX.takes0 (fun W pn xe tk _ => pss_one (ps_expr (he W pn xe _ (takes_len tk) fun cls d σ H h hl => h σ hl) hw)) hh
end Ly
namespace Dt
open PySem PySem.Spec PyProof.Rows L2 Ly
/-- e.f -/
theorem w_xf {π : Po} {δ : List Rv} {k : Rv → Prop} {a C dd : Addr} {f : Str} {n : Nat} {fds : List (Str × D)} {x : D} (h : δ[n]? = some (.ex a dd fds)) (hf : fds.lookup f = some x) (q : k (.d x)) : Wp π (tXf a (.ref C) (some dd) C f (tVar n)) δ k := fun X H σ Q o e h' => by
  obtain ⟨v, e1, rfl, fs, h1, h2, h3⟩ := e.get h (fun z => by cases z)
  refine ⟨.ref a, e1, rfl, rfl, dd, fs, ?_⟩
  have look : ∀ {fs : List (Str × V)} {fds : List (Str × D)}, fs.map (·.1) = fds.map (·.1) → Ats (cut X H) (fs.map (·.2)) (fds.map (·.2)) → fds.lookup f = some x → ∃ v, fs.lookup f = some v ∧ At (cut X H) v x := by
    intro fs
    induction fs with
    | nil =>
      intro fds e1 e2 e3
      cases fds with
      | nil => cases e3
      | cons => cases e1
    | cons p fs ih =>
      intro fds e1 e2 e3
      cases fds with
      | nil => cases e1
      | cons q fds =>
        obtain ⟨p1, p2⟩ := p
        obtain ⟨q1, q2⟩ := q
        simp only [List.map_cons, List.cons.injEq] at e1
        obtain ⟨rfl, e1⟩ := e1
        cases e2 with
        | cons at1 at2 =>
          rw [List.lookup_cons] at e3 ⊢
          by_cases hb : (f == p1) = true
          · rw [hb] at e3 ⊢
            cases e3
            exact ⟨p2, rfl, at1⟩
          · have hb' : (f == p1) = false := by simpa using hb
            rw [hb'] at e3 ⊢
            exact ih e1 at2 e3
  obtain ⟨v, l1, a1⟩ := look h2 h3 hf
  exact ⟨v, rfl, (of_cut h1).2, l1, h' v (.d x) H o.kp a1 q⟩
/-- isinstance(e, c) -/
theorem wcb_isX {π : Po} {K : PySem.W.Frag} {k : Rv → Prop} {D0 a dd : Addr} {c : V} {cv : Value} {b : Bool} {fds : List (Str × D)} (hc : ∀ u, RelV c u → u = cv) (hk : PySem.W.kitOne K (.ref D0) cv = some b) (q : k (.d (.bl b))) : WCb π (rIsEd K D0 a (some dd)) [.ex a dd fds, .raw c] k := fun X H0 H xs Q o0 o k0 ra h => by
  match xs, ra with
  | [v, c'], ⟨r1, rc, _⟩ =>
    have rc : c' = c := rc
    rw [rc]
    obtain ⟨ev, fs, h1, _, _⟩ := r1
    rw [ev]
    exact ⟨c, cv, b, rfl, hc, hk, .inr ⟨dd, fs, rfl, (of_cut h1).2⟩, h (.bl b) (.d (.bl b)) H o.kp (At.bl b) q⟩
end Dt
namespace Ly
open PySem PySem.Spec PyProof.Rows L2 LamX
/-- a def whose code object stands at c -/
structure GFC (K : PySem.W.Frag) (mg : Str → Option Value) (x : Str) (st : Stmt) (c : Addr) : Prop where
  ex : ∃ (f : Addr) (fd : FuncData), L2.Fun K x x st f fd ∧ mg x = some (.ref f) ∧ fd.code = .ref c
def BodyGC (W : Wd) (k : Nat) (N : List Str) (qual : Str) (st : Stmt) (c : Addr) (sp : Sp) : Prop :=
  ∀ (f : Addr) (A : Around) (outer : List Env) (s : Shared) (H : Hp) (vs : List V) (Q : VK) (E : XK), Room k (A.deeper (envOfC qual (defScope st) s.heap.objs.size f (.ref c))) → (A.deeper (envOfC qual (defScope st) s.heap.objs.size f (.ref c))).guards = some [] → sp vs H Q E →
      ∃ t, PSs (cxOf CX0 W.P W.w W.K W.mg W.base N qual (defScope st) f (.ref c) A outer s H E).nox (defBody st) t ∧ t { nx := fun _ H' => Q .non H', rt := Q } (start N vs) H
theorem clgc_of {W : Wd} {k : Nat} {x : Str} {st : Stmt} {c : Addr} {N ps : List Str} {sp : Sp} (g : GFC W.K W.mg x st c) (S : FnScope N ps (defScope st)) (hb : BindOk x x st ps) (len : ∀ vs H Q E, sp vs H Q E → vs.length = ps.length) (hbody : BodyGC W k N x st c sp) : ClG W (k + 1) x sp := by
  obtain ⟨f, fd, F, hm, hc⟩ := g.ex
  refine ⟨f, fd, ps, ?_, hm, F.kp, F.binds hb⟩
  obtain ⟨oc, od, kV, doc, pm, an, cdv, ct, osl, rfl, lk, hcd⟩ := F.ex
  have hc : cdv = .ref c := hc
  subst hc
  refine fng_of lk hcd S len fun A outer s H vs Q E hr hg hsp => ?_
  obtain ⟨t, h, q⟩ := hbody f A outer s H vs Q E hr hg hsp
  exact ⟨t, h.nox, q⟩
/-- x(lambda: body) -/
theorem pe_told {X : Cx} {TT : (XK → Hp → VK → Prop) → Hp → VK → Prop} {x a : Str} {c P : Addr} {k j : Nat} {st : Stmt} {N : List Str} {params : Arguments} {body : Expr} {scope : Scope} {t : XK → TE} {p lpos pos : Pos}
    (G : GF X.K X.mg x st) (S : FnScope N [a] (defScope st)) (hb : BindOk x x st [a]) (hNg : N[0]? = some a) (hva : Vis (defScope st) a) (hG : ∀ (g : Addr) (cdg : Value) (q : Str), GivesTo X N x (defScope st) g cdg (defBody st) a q TT)
    (hg : Gl X x) (TB : TabB X.base X.mg c P) (hcode : X.env.code = .ref c) (hr : Room j X.A) (hk : k + 2 ≤ j) (L : LamS X.env.scope scope) (hdef : defaultsOf params X.env = ([], []))
    (hbind : ∀ (q : Str) (cl : List (Str × Addr)) (pm cv ctv : Value), bindArgs (PySem.W.kla_fn "<lambda>" q params body scope cl pm cv ctv) ⟨[], []⟩ = pure [])
    (hbody : ∀ (A : Around) (outer : List Env) (s : Shared) (H : Hp) (E : XK) (f c' : Addr), Room k (A.deeper (lamEnv X scope s.heap.objs.size f c')) → PE (lamCx X A outer s H E scope f c') body (t E))
    (hdb : (x == ("__debug__" : Str)) = false := by decide) (hd : (a == ("__debug__" : Str)) = false := by decide) (hcd : (a == ("__classdict__" : Str)) = false := by decide) :
    PE X (.Call (.Name x p) [.Lambda params body scope lpos] [] pos) (tLamS P (X.env.qual ++ "<lambda>") TT t) := by
  obtain ⟨f, fd, F, hm⟩ := G.ex
  have kp := F.kp
  have bd := F.binds hb
  obtain ⟨oc, od, kV, doc, pm, an, cdv, ct, osl, rfl, lk, hcd2⟩ := F.ex
  exact pe_lamS hg hm kp lk hcd2 bd S hNg hva (hG f cdv _) TB hcode (hr.mono hk) L hdef hbind hbody hdb hd hcd
end Ly
namespace Dt
open PySem PySem.Spec PyProof.Rows L2 Ly LamX
theorem body_TC {T : List (Addr × Str)} {W : Wd} {k : Nat} {N : List Str} {qual : Str} {st : Stmt} {c : Addr} {pt : Bool} {B : List Rv → (Rv → Prop) → Prop} {n m : Nat} (hm : N.length - n = m) (hB : ∀ rs k, B rs k → rs.length = n)
    (hb : ∀ (f : Addr) (A : Around) (outer : List Env) (s : Shared) (H : Hp) (E : XK), Room k (A.deeper (envOfC qual (defScope st) s.heap.objs.size f (.ref c))) → (A.deeper (envOfC qual (defScope st) s.heap.objs.size f (.ref c))).guards = some [] →
      ∃ t, PSs (cxOf CX0 W.P W.w W.K W.mg W.base N qual (defScope st) f (.ref c) A outer s H E).nox (defBody st) t ∧ ∀ (π : Po) (rs : List Rv) (kr : Rv → Prop), π.pot.isSome = pt → π.tabs = T → B rs kr → Ws π t { nx := fun _ => kr (.d .non), rt := kr } (rs ++ uns m)) :
    BodyGC W k N qual st c (spT T pt B) := fun f A outer s H vs Q E hr hg h => by
  obtain ⟨t, ps, w⟩ := hb f A outer s H E hr hg
  exact ⟨t, ps, run_bodyT hm hB w h⟩
theorem clg_TC {T : List (Addr × Str)} {W : Wd} {k : Nat} {x : Str} {st : Stmt} {c : Addr} {N ps : List Str} {pt : Bool} {B : List Rv → (Rv → Prop) → Prop} (g : GFC W.K W.mg x st c) (S : FnScope N ps (defScope st)) (hb : BindOk x x st ps) (hB : ∀ rs k, B rs k → rs.length = ps.length) (hbody : BodyGC W k N x st c (spT T pt B)) : ClG W (k + 1) x (spT T pt B) :=
  clgc_of g S hb (len_T hB) hbody
end Dt
namespace Ly
open PySem PySem.Spec PyProof.Rows L2 LamX
/-- what is tracked at first: the empty tables, the script where it isn't known -/
def hpT (ts : List Addr) (a : Addr) (o : Option (Obj × HO)) : Hp := fun b => if b ∈ ts then some (.tbl #[]) else if b = a then o.map (fun p => .frz p.1 p.2) else none
theorem hpT_cases {ts : List Addr} {a b : Addr} {o : Option (Obj × HO)} {u : HO} (e : hpT ts a o b = some u) : (b ∈ ts ∧ u = .tbl #[]) ∨ (b = a ∧ ∃ p, o = some p ∧ u = .frz p.1 p.2) := by
  unfold hpT at e
  by_cases h1 : b ∈ ts
  · rw [if_pos h1] at e
    exact .inl ⟨h1, (Option.some.inj e).symm⟩
  · rw [if_neg h1] at e
    by_cases h2 : b = a
    · rw [if_pos h2] at e
      obtain ⟨p, rfl, h⟩ := Option.map_eq_some_iff.mp e
      exact .inr ⟨h2, p, rfl, h.symm⟩
    · rw [if_neg h2] at e
      cases e
structure TbOk (K : PySem.W.Frag) (h : Heap) (c P : Addr) : Prop where
  emp : h.get? P = some { cls := .none, data := .fields #[] }
  out : K.lookup P = none
  hd : PySem.W.CodeHd h c P
theorem law_callGT {P : Program} {w : World} {K : PySem.W.Frag} {mg mb : Str → Option Value} {k : Nat} {fa a : Addr} {cs : List (Addr × Addr)} {fd : FuncData} {x : Str} {sp : Sp} {s₁ : Shared} {vs : List Value} {ns : List Int}
    (KX : K.In s₁.heap) (hns : s₁.heap.Ns mainGlobals mg) (hb : s₁.heap.Ns builtinsNs mb) (hbb : ∀ x : Str, x ≠ "__name__" → mb x = bootBuiltins x) (hlim : s₁.heap.NoLimit) (hgen : s₁.gens = #[]) (hcs : ∀ p ∈ cs, TbOk K s₁.heap p.1 p.2)
    (hbm : ∃ (bm : Addr) (ob : Obj), mg "__builtins__" = some (.ref bm) ∧ bm ≠ builtinsNs ∧ s₁.heap.get? bm = some ob ∧ ob.cls = .type "module" ∧ ob.dict = some builtinsNs ∧ ob.data = .plain)
    (ha : s₁.heap.get? a = some { cls := .type "list", data := .seq vs.toArray }) (hi : IntsAre vs ns) (hl : ns.length ≤ sizeLine) (hr : Room k callerA)
    (F : ∀ base : Heap, K.In base → base.Ns mainGlobals mg → (∀ p ∈ cs, TabB base mg p.1 p.2) → FnG P w K mg base k fa fd [x] sp) (hbind : ∀ (s : Shared) (u : Value), BindsTo s fd ⟨[u], []⟩ [(x, u)])
    (hsp : ∀ H : Hp, (∀ p ∈ cs, H p.2 = some (.tbl #[])) → SqL K H a (ns.map V.int) → sp [.ref a] H (fun v _ => v = .bl true) fun _ _ _ => False) :
    codeAny (model P w) callerA (.call (.ref fa) ⟨[.ref a], []⟩) (fun r s' => r = .ok (.ret (.bool true)) ∧ OldK s₁.heap s'.heap ∧ s'.os = s₁.os ∧ AllBare s'.gens) s₁ := by
  have rv := vals_ints hi
  have lenV := IntsAre.length hi
  have tabAt : ∀ {b : Addr}, b ∈ cs.map (·.2) → ∃ p ∈ cs, p.2 = b ∧ s₁.heap.get? b = some { cls := .none, data := .fields #[] } := fun {b} hb => by
    obtain ⟨p, hp, rfl⟩ := List.mem_map.mp hb
    exact ⟨p, hp, rfl, (hcs p hp).emp⟩
  have aT : a ∉ cs.map (·.2) := fun z => by
    obtain ⟨_, _, _, e⟩ := tabAt z
    rw [ha] at e
    have z' : Data.seq vs.toArray _ = Data.fields #[] := congrArg Obj.data (Option.some.inj e)
    cases z'
  obtain ⟨o, ho1, ho2⟩ : ∃ o : Option (Obj × HO), (∀ p, o = some p → K.lookup a = none ∧ p = ({ cls := .type "list", data := .seq vs.toArray }, .lst (ns.map V.int))) ∧ (o = none → ∃ u, K.lookup a = some u) := by
    cases hk : K.lookup a with
    | none => exact ⟨some ({ cls := .type "list", data := .seq vs.toArray }, .lst (ns.map V.int)), fun p e => ⟨rfl, (Option.some.inj e).symm⟩, fun z => by cases z⟩
    | some u => exact ⟨none, fun p e => (by cases e), fun _ => ⟨u, rfl⟩⟩
  have tb : ∀ p ∈ cs, hpT (cs.map (·.2)) a o p.2 = some (.tbl #[]) := fun p hp => if_pos (List.mem_map.mpr ⟨p, hp, rfl⟩)
  have hS : SqL K (hpT (cs.map (·.2)) a o) a (ns.map V.int) := by
    have ea : hpT (cs.map (·.2)) a o a = o.map fun p => .frz p.1 p.2 := (if_neg aT).trans (if_pos rfl)
    cases ho : o with
    | none =>
      obtain ⟨u, hu⟩ := ho2 ho
      have e := KX a u hu
      rw [ha] at e
      cases e
      exact .inr ⟨_, vs.toArray, 0, hu, rfl, rfl, rfl, by rw [List.size_toArray, lenV]; exact hl, rv⟩
    | some p =>
      obtain ⟨_, rfl⟩ := ho1 p ho
      rw [ho] at ea
      exact .inl (.inr ⟨_, ea⟩)
  have hok : HOk P w (hpT (cs.map (·.2)) a o) s₁.heap := fun b u e => by
    rcases hpT_cases e with ⟨m, rfl⟩ | ⟨rfl, p, hp, rfl⟩
    · obtain ⟨_, _, _, z⟩ := tabAt m
      exact z
    · obtain ⟨_, rfl⟩ := ho1 p hp
      exact ⟨ha, by rw [List.length_map]; exact hl, vs, 0, rv, ha⟩
  -- what is no list and no empty table isn't tracked
  have free : ∀ {b : Addr} {ob : Obj}, s₁.heap.get? b = some ob → (∀ xs n, ob.data ≠ .seq xs n) → ob.data ≠ .fields #[] → hpT (cs.map (·.2)) a o b = none := fun {b ob} e n1 n2 => by
    cases q : hpT (cs.map (·.2)) a o b with
    | none => rfl
    | some u =>
      rcases hpT_cases q with ⟨m, _⟩ | ⟨rfl, _⟩
      · obtain ⟨_, _, _, z⟩ := tabAt m
        rw [z] at e
        cases e
        exact (n2 rfl).elim
      · rw [ha] at e
        cases e
        exact (n1 _ _ rfl).elim
  have kept : ∀ {b : Addr} {ob : Obj}, s₁.heap.get? b = some ob → (∀ xs n, ob.data ≠ .seq xs n) → ob.data ≠ .fields #[] → (hidT s₁.heap (hpT (cs.map (·.2)) a o)).get? b = some ob := fun e n1 n2 => hidT_get e (free e n1 n2)
  have nsK : ∀ {b : Addr} {m : Str → Option Value}, s₁.heap.Ns b m → (hidT s₁.heap (hpT (cs.map (·.2)) a o)).Ns b m := by
    rintro b m ⟨ob, es, ep, e, d, r⟩
    exact ⟨ob, es, ep, kept e (fun _ _ z => by rw [d] at z; cases z) (fun z => by rw [d] at z; cases z), d, r⟩
  have hKb : K.In (hidT s₁.heap (hpT (cs.map (·.2)) a o)) := fun b ob e => by
    refine hidT_get (KX b ob e) ?_
    cases q : hpT (cs.map (·.2)) a o b with
    | none => rfl
    | some u =>
      rcases hpT_cases q with ⟨m, _⟩ | ⟨rfl, p, hp, _⟩
      · obtain ⟨p, hp, rfl⟩ := List.mem_map.mp m
        rw [(hcs p hp).out] at e
        cases e
      · rw [(ho1 p hp).1] at e
        cases e
  have hM : Mod K mg (hidT s₁.heap (hpT (cs.map (·.2)) a o)) := ⟨hKb, nsK hns, ⟨mb, nsK hb, hbb⟩, by
    obtain ⟨mc, h1, h2⟩ := hlim
    exact ⟨mc, nsK h1, h2⟩⟩
  have notTab : ∀ p ∈ cs, ∀ {b : Addr} {ob : Obj}, s₁.heap.get? b = some ob → ob.data ≠ .fields #[] → b ≠ p.2 := fun p hp b ob e n z => by
    rw [z, (hcs p hp).emp] at e
    cases e
    exact n rfl
  have TB : ∀ p ∈ cs, TabB (hidT s₁.heap (hpT (cs.map (·.2)) a o)) mg p.1 p.2 := fun p hp => by
    refine ⟨?_, ?_, ?_⟩
    · obtain ⟨oc, us, file, tf, flags, tg, inF, text, tt, e1, r1, r2, r3, rest⟩ := (hcs p hp).hd
      exact ⟨oc, us, file, tf, flags, tg, inF, text, tt, kept e1 (fun _ _ z => by rw [r2] at z; cases z) (fun z => by rw [r2] at z; cases z; simp at r3), r1, r2, r3, rest⟩
    · obtain ⟨bm, ob, b1, b2, b3, b4, b5, b6⟩ := hbm
      have nf : ob.data ≠ .fields #[] := fun z => by rw [b6] at z; cases z
      refine ⟨bm, ob, b1, b2, fun z => ?_, notTab p hp b3 nf, kept b3 (fun _ _ z => by rw [b6] at z; cases z) nf, b4, b5, b6⟩
      obtain ⟨og, es, ep, e, d, _⟩ := hns
      rw [← z, b3] at e
      cases e
      rw [d] at b6
      cases b6
    · obtain ⟨og, es, ep, e, d, _⟩ := hns
      exact notTab p hp e fun z => by rw [d] at z; cases z
  have e0 : Env0 P w K mg (hidT s₁.heap (hpT (cs.map (·.2)) a o)) callerA [] s₁ (hpT (cs.map (·.2)) a o) := ⟨rfl, hM, fun b o e => of_hidT e, Nat.le_of_eq (hidT_size s₁.heap _), trivial, fun b z => (by cases z), hok, AllBare.of_eq hgen⟩
  refine codeAny_mono ((F (hidT s₁.heap _) hKb (nsK hns) TB).run callerA [] s₁ _ ⟨[.ref a], []⟩ [.ref a] [.ref a] (fun v _ => v = .bl true) (fun _ _ _ => False) hr rfl e0 (hbind s₁ (.ref a)) (.cons rfl .nil) (hsp _ tb hS)) ?_
  intro r s' h
  match r, h with
  | .error e, h => exact (show False from h).elim
  | .ok .next, h => exact h.elim
  | .ok .brk, h => exact h.elim
  | .ok .cont, h => exact h.elim
  | .ok (.ret u), h =>
    obtain ⟨v, H', os, bare, un, hok', r', q⟩ := h
    subst q
    obtain rfl : u = .bool true := r'
    have same : ∀ b ob, b ∉ cs.map (·.2) → s₁.heap.get? b = some ob → s'.heap.get? b = some ob := fun b ob nb e => by
      cases q : hpT (cs.map (·.2)) a o b with
      | none => exact un.keep b ob e q (by simp [frs]) (by simp)
      | some u =>
        rcases hpT_cases q with ⟨m, _⟩ | ⟨_, p, _, rfl⟩
        · exact absurd m nb
        · have z2 := un.frzs b _ _ q
          obtain ⟨e1, _⟩ := hok b _ q
          obtain ⟨e2, _⟩ := hok' b _ z2
          rw [e] at e1
          cases e1
          exact e2
    have more : ∀ p ∈ cs, ∃ us : Array Value, s'.heap.get? p.2 = some { cls := .none, data := .fields us } := fun p hp => by
      obtain ⟨us, z⟩ := un.tbls p.2 #[] (tb p hp)
      exact ⟨_, hok' p.2 _ z⟩
    refine ⟨rfl, ⟨fun b ob e => ?_, fun b ob e => ?_⟩, os, bare⟩
    · by_cases m : b ∈ cs.map (·.2)
      · obtain ⟨p, hp, rfl⟩ := List.mem_map.mp m
        obtain ⟨us, z⟩ := more p hp
        have t0 := (hcs p hp).emp
        rw [t0] at e
        cases e
        exact .inr (.inl ⟨((hcs p hp).hd.tab t0).isCodeTable, rfl, #[], us, rfl, by rw [Array.empty_append]; exact z⟩)
      · exact .inl (same b ob m e)
    · by_cases m : b ∈ cs.map (·.2)
      · obtain ⟨p, hp, rfl⟩ := List.mem_map.mp m
        obtain ⟨us, z⟩ := more p hp
        exact ⟨_, z⟩
      · exact ⟨ob, same b ob m e⟩
end Ly
namespace Dt
open PySem PySem.Spec PyProof.Rows L2 Ly
theorem tabs_emp {H : Hp} {P : Addr} {q : Str} (e : H P = some (.tbl #[])) : LamX.TabS H P q := ⟨#[], e, by trivial, fun pos cv h => by cases h⟩
/-- where the tables T stand -/
theorem ok_tabs {T : List (Addr × Str)} {H : Hp} (h : LamX.Tabs T H) : Ok ⟨none, T⟩ (fun a => ∃ s, (a, s) ∈ T) H := by
  refine ⟨fun p ⟨s, hp⟩ z => ?_, fun q m => ?_⟩
  · obtain ⟨ps, e, _⟩ := h _ hp
    rw [z] at e
    cases e
  · rcases m with e | ⟨s, hs⟩
    · cases e
    · exact ⟨⟨s, hs⟩, fun e => (by cases e), fun s hs => h _ hs⟩
/-- a def that draws and makes lambdas, called where no data are told -/
theorem pot_callT {T : List (Addr × Str)} {X : Xs} {B : List Rv → (Rv → Prop) → Prop} {H H1 : Hp} {Q : VK} {E : XK} {p : Addr} {b : Bool} (ok : Ok ⟨none, T⟩ X H) (np : H p = none) (s1 : Same H H1) (hp : Pot H1 p) (hB : B [.pot] fun r => r = .d (.bl b)) (q : ∀ H', Kp ⟨none, T⟩ H H' → Q (.bl b) H') : spT T true B [.ref p] H1 Q E := by
  have nX : ¬ X p := fun z => ok.dom p z np
  have k1 := Kp.of_same ok s1
  have ok1 := ok.keep k1
  refine ⟨⟨some p, T⟩, fun a => X a ∨ a = p, [.pot], _, rfl, rfl, ⟨fun a e => ?_, fun c e => ?_⟩, rfl, ⟨⟨p, rfl, rfl⟩, trivial⟩, hB, fun v r H' k _ ra kr => ?_⟩
  · rcases e with e | rfl
    · exact ok1.dom a e
    · obtain ⟨x, y, h, _⟩ := hp
      rw [h]
      exact fun z => by cases z
  · rcases e with e | ⟨s, e⟩
    · have z : c = p := (Option.some.inj e).symm
      subst z
      refine ⟨.inr rfl, fun _ => hp, fun s hs => ?_⟩
      exact absurd (ok.pot c (.inr ⟨s, hs⟩)).1 nX
    · obtain ⟨x1, f⟩ := ok1.pot c (.inr ⟨s, e⟩)
      refine ⟨.inl x1, fun z => ?_, f.2⟩
      have z : c = p := (Option.some.inj z).symm
      rw [z] at x1
      exact absurd x1 nX
  · subst kr
    cases ra
    refine q H' ⟨fun a o n e => k.keep a o (fun z => ?_) (s1 _ _ e), fun c m => ?_⟩
    · rcases z with z | z
      · rw [← Option.some.inj z] at e
        rw [np] at e
        cases e
      · exact n (.inr z)
    · rcases m with m | m
      · cases m
      · exact ⟨fun z => (by cases z), (k.pot c (.inr m)).2⟩
theorem kp_seq {K : PySem.W.Frag} {T : List (Addr × Str)} {H H' : Hp} {a : Addr} {xs : List V} (h : LamX.Tabs T H) (k : Kp ⟨none, T⟩ H H') (s : SqL K H a xs) : SqL K H' a xs := by
  have key : ∀ o, (∀ ps, o ≠ HO.tbl ps) → H a = some o → H' a = some o := fun o n e => k.keep a o (fun m => by
    rcases m with m | ⟨q, m⟩
    · cases m
    · obtain ⟨ps, z, _⟩ := h _ m
      have z : H a = some (.tbl ps) := z
      rw [e] at z
      exact n ps (Option.some.inj z)) e
  rcases s with (e | ⟨o, e⟩) | r
  · exact .inl (.inl (key _ (fun _ z => by cases z) e))
  · exact .inl (.inr ⟨o, key _ (fun _ z => by cases z) e⟩)
  · exact .inr r
theorem kp_tabs {T : List (Addr × Str)} {H H' : Hp} (k : Kp ⟨none, T⟩ H H') : LamX.Tabs T H' := fun p hp => (k.pot p.1 (.inr ⟨p.2, hp⟩)).2 _ hp
/-- over range(n), no test, while the tables may change -/
theorem i_lcRT {T : List (Addr × Str)} {σ : L2.St} {H : Hp} {Q : VK} {te : TE} {j : Nat} {vs : List Nat} {ta : TA} {m : Int} (G : V → Prop) (hT : LamX.Tabs T H) (h : ∀ Q' : List V → Hp → Prop, Q' [.int m] H → ta σ H Q') (h0 : 0 ≤ m) (h1 : m ≤ 1000) (hw : ∀ x, wipe ((wipe σ vs).set j (some x)) vs = wipe σ vs)
    (turn : ∀ (i : Nat) H' (Q' : VK), (i : Int) < m → Kp ⟨none, T⟩ H H' → (∀ y H4, Kp ⟨none, T⟩ H' H4 → G y → Q' y H4) → te ((wipe σ vs).set j (some (.int (i : Int)))) H' Q')
    (fin : ∀ r H' ys, H' r = some (.lst ys) → Kp ⟨none, T⟩ H H' → ys.length = m.toNat → (∀ v ∈ ys, G v) → Q (.ref r) H') : tLc (iRng1 ta) (gName j) tYes te vs σ H Q := by
  have ok := ok_tabs hT
  refine h _ ⟨m, rfl, by omega, by omega, fun D nD => ?_⟩
  have nM : ¬ Mu ⟨none, T⟩ D := fun z => (ok.pot D z).2.some z nD
  have mutD : ∀ {H' : Hp} {o : HO} {xs : List V}, Kp ⟨none, T⟩ H H' → H' D = some (.lst xs) → Kp ⟨none, T⟩ H (upd H' D o) := fun k e => k.addC ok nD (by rw [e]; exact nco_lst)
  refine lc_range (lo := 0) (n := m.toNat) (fun i H' => ∃ ys, H' D = some (.lst ys) ∧ ys.length = i ∧ i ≤ m.toNat ∧ Kp ⟨none, T⟩ H H' ∧ ∀ v ∈ ys, G v)
    ⟨[], upd_same, rfl, Nat.zero_le _, ok.kp.add ok nD nD, fun v e => by cases e⟩ ?_ ?_
  · rintro i H' hi ⟨ys, hD, hy, hle, k, g⟩
    rw [show (0 : Int) + (i : Int) = (i : Int) from Int.zero_add _]
    refine ⟨hw _, ?_⟩
    show te ((wipe σ vs).set j (some (.int (i : Int)))) H' _
    refine turn i H' _ (by omega) k fun y H4 k4 gy => ?_
    have hD4 := k4.keep D _ nM hD
    refine ⟨ys, hD4, by rw [hy]; exact small1000 (by omega), ys ++ [y], upd_same, by rw [List.length_append, hy]; rfl, hi, mutD (k.trans k4) hD4, fun v e => ?_⟩
    rcases List.mem_append.mp e with e | e
    · exact g v e
    · rw [List.mem_singleton] at e
      rw [e]
      exact gy
  · rintro H' ⟨ys, hD, hy, _, k, g⟩
    exact fin D H' ys hD k hy g
end Dt
namespace Ly
open PySem PySem.Spec PyProof.Rows L2 LamX
def rIsEdV (K : PySem.W.Frag) (D a : Addr) (cls : Value) (d : Option Addr) : List V → Hp → VK → Prop := fun xs H Q => cls = .ref D ∧ rIsEd K D a d xs H Q
theorem call_isEdV {X : Cx} {a D : Addr} {cls : Value} {d : Option Addr} {oe : Obj} {pn : List (Addr × Obj)} (e : ExK X.K D) (hz : Zc cls d oe) (hf : ∃ vs, oe.data = .fields vs) : CallR (X.suite a ((a, oe) :: pn)) (.builtin "isinstance") (rIsEdV X.K D a cls d) := by
  intro pins s σ H xs us Q I hv ⟨hc, h⟩
  subst hc
  exact call_isEd e hz hf pins s σ H xs us Q I hv h
end Ly
namespace Dt
open PySem PySem.Spec PyProof.Rows L2 Ly LamX
theorem wcb_isXV {π : Po} {K : PySem.W.Frag} {k : Rv → Prop} {D0 a dd : Addr} {cls : Value} {d : Option Addr} {c : V} {cv : Value} {b : Bool} {fds : List (Str × D)} (h1 : cls = .ref D0) (h2 : d = some dd) (hc : ∀ u, RelV c u → u = cv) (hk : PySem.W.kitOne K (.ref D0) cv = some b) (q : k (.d (.bl b))) : WCb π (rIsEdV K D0 a cls d) [.ex a dd fds, .raw c] k := by
  subst h1 h2
  exact fun X H0 H xs Q o0 o k0 ra h => ⟨rfl, wcb_isX hc hk q X H0 H xs Q o0 o k0 ra h⟩
theorem told_runE {π : Po} {X : Xs} {H : Hp} {f c' : Addr} {q : Str} {N : List Str} {n i m : Nat} {tl : XK → Hp → VK → Prop} {pre post : TS} {l : List (Value × Su)} {kx : Kx} {nm : Prop} {R : Rv → Prop} {Q : VK} {K : PySem.W.Frag} (hm : N.length - 1 = m) (hn : N.length = n) (ok : Ok π X H) (hc : H c' = some (CodeO c' q)) (T : TL π X H tl kx nm)
    (hpre : Ws π pre { nx := fun δ => δ[0]? = some (.raw (.ref f)) ∧ (nm → Ws π post { nx := fun _ => False, rt := R } δ), rt := fun _ => False } (.raw (.ref f) :: uns m))
    (hx : ∀ C fds, kx C fds → ∀ a dd, HM π K post R n i C a dd fds l) (hq : ∀ v r H', Kp π H H' → Fre r → RAt π X H H' r v → R r → Q v H') :
    tSeq pre (tSeq (tTryE K n i (fun E σ H Q => σ[0]? = some (some (.ref f)) ∧ H c' = some (CodeO c' q) ∧ tl E H Q) l) post) { nx := fun _ H' => Q .non H', rt := Q } (L2.start N [.ref f]) H :=
  told_run (tl := tl) hm hn ok hc T hpre hx hq
end Dt
namespace Dt
open PySem PySem.Spec PyProof.Rows L2 Ly
abbrev ER := D → D → Bool → Prop
/-- item by item -/
inductive EqSq (E : ER) : List D → List D → Bool → Prop
  | nil : EqSq E [] [] true
  | ff {d e : D} {xs ys : List D} (g : E d e false) : EqSq E (d :: xs) (e :: ys) false
  | tt {d e : D} {xs ys : List D} {b : Bool} (g : E d e true) (t : EqSq E xs ys b) : EqSq E (d :: xs) (e :: ys) b
  | s1 {d : D} {xs : List D} : EqSq E (d :: xs) [] false
  | s2 {d : D} {ys : List D} : EqSq E [] (d :: ys) false
theorem EqSq.done {E : ER} {xs ys : List D} {c : Bool} {n : Nat} (h : EqSq E (xs.drop n) (ys.drop n) c) (h1 : xs.length = n) (h2 : ys.length = n) : c = true := by
  rw [List.drop_of_length_le (by omega), List.drop_of_length_le (by omega)] at h
  cases h
  rfl
section
variable {X : Cx} {E : ER} {j : Nat}
theorem EqSq.ends {E : ER} {xs ys : List D} {c : Bool} (h : EqSq E (xs.drop (min xs.length ys.length)) (ys.drop (min xs.length ys.length)) c) : c = (xs.length == ys.length) := by
  by_cases hl : xs.length = ys.length
  · have z := h.done (by omega) (by omega)
    rw [z, hl]
    simp
  · have : (xs.length == ys.length) = false := by simpa using hl
    rw [this]
    by_cases h2 : xs.length < ys.length
    · rw [Nat.min_eq_left (by omega), List.drop_length, List.drop_eq_getElem_cons h2] at h
      cases h
      rfl
    · rw [Nat.min_eq_right (by omega), List.drop_length, List.drop_eq_getElem_cons (show ys.length < xs.length by omega)] at h
      cases h
      rfl
end
end Dt
namespace L2
open PySem PySem.Spec PyProof.Rows
end L2
namespace Ly
open PySem PySem.Spec PyProof.Rows L2
end Ly
namespace Dt
open PySem PySem.Spec PyProof.Rows L2 Ly
end Dt
namespace Ly
open PySem PySem.Spec PyProof.Rows L2
end Ly
namespace Dt
open PySem PySem.Spec PyProof.Rows L2 Ly
mutual
/-- no list in it -/
inductive Nol : D → Prop
  | int {i : Int} : Nol (.int i)
  | bl {b : Bool} : Nol (.bl b)
  | non : Nol .non
  | str {s : Str} : Nol (.str s)
  | tup {ds : List D} (h : Nols ds) : Nol (.tup ds)
  | obj {C : Addr} {fs : List (Str × D)} (h : Nols (fs.map (·.2))) : Nol (.obj C fs)
inductive Nols : List D → Prop
  | nil : Nols []
  | cons {d : D} {ds : List D} (h : Nol d) (t : Nols ds) : Nols (d :: ds)
end
mutual
theorem At.drop {X : Xs} {H : Hp} {p : Addr} {vs : List V} (hp : H p = some (.lst vs)) {v : V} {d : D} : At (cut (fun a => X a ∧ a ≠ p) H) v d → Nol d → At (cut X H) v d
  | .int i, _ => .int i
  | .bl b, _ => .bl b
  | .non, _ => .non
  | .str s, _ => .str s
  | .lst h t, n => nomatch n
  | .tup h t, .tup n => .tup (cut_of (fun z => (of_cut h).1 ⟨z, fun w => by have := (of_cut h).2; rw [w, hp] at this; cases this⟩) (of_cut h).2) (t.drop' hp n)
  | .dct h e t, n => nomatch n
  | .dcT h e t, n => nomatch n
  | .obj h e t, .obj n => .obj (cut_of (fun z => (of_cut h).1 ⟨z, fun w => by have := (of_cut h).2; rw [w, hp] at this; cases this⟩) (of_cut h).2) e (t.drop' hp n)
theorem Ats.drop' {X : Xs} {H : Hp} {p : Addr} {vs : List V} (hp : H p = some (.lst vs)) {ws : List V} {ds : List D} : Ats (cut (fun a => X a ∧ a ≠ p) H) ws ds → Nols ds → Ats (cut X H) ws ds
  | .nil, _ => .nil
  | .cons h t, .cons n m => .cons (h.drop hp n) (t.drop' hp m)
end
/-- the arguments, a list at p told as it is now -/
inductive FzK (p : Addr) (ds : List D) : List Rv → List Rv → Prop
  | nil : FzK p ds [] []
  | d {x : D} {as rs : List Rv} (t : FzK p ds as rs) : FzK p ds (.d x :: as) (.d x :: rs)
  | pot {as rs : List Rv} (t : FzK p ds as rs) : FzK p ds (.pot :: as) (.pot :: rs)
  | own {as rs : List Rv} (t : FzK p ds as rs) : FzK p ds (.own p (.lst ds) :: as) (.d (.lst ds) :: rs)
theorem FzK.all {p : Addr} {ds : List D} {as rs : List Rv} (h : FzK p ds as rs) : rs.all isArg = true := by
  induction h with
  | nil => rfl
  | d t ih => simpa [List.all_cons, isArg] using ih
  | pot t ih => simpa [List.all_cons, isArg] using ih
  | own t ih => simpa [List.all_cons, isArg] using ih
end Dt
namespace Ly
open PySem PySem.Spec PyProof.Rows L2
/-- how a call's values are shared out: those of the parameters, those of the dict -/
structure Shr where
  f : {α : Type} → List α → List α → List α
  x : {α : Type} → List α → List α → List (Str × α)
end Ly
namespace Ly
open PySem PySem.Spec PyProof.Rows L2
end Ly
namespace Dt
open PySem PySem.Spec PyProof.Rows L2 Ly
theorem RAts.append {π : Po} {X : Xs} {H0 H : Hp} : ∀ {rs rs' : List Rv} {vs vs' : List V}, RAts π X H0 H rs vs → RAts π X H0 H rs' vs' → RAts π X H0 H (rs ++ rs') (vs ++ vs')
  | [], _, [], _, _, b => b
  | _ :: _, _, _ :: _, _, ⟨a, t⟩, b => ⟨a, t.append b⟩
  | [], _, _ :: _, _, a, _ => a.elim
  | _ :: _, _, [], _, a, _ => a.elim
end Dt
namespace Dt
open PySem PySem.Spec PyProof.Rows L2 Ly
/-- every keyword goes into the dict -/
def gP (ks : List Str) : Shr := ⟨fun as _ => as, fun _ bs => ks.zip bs⟩
end Dt
namespace Ly
open PySem PySem.Spec PyProof.Rows L2 LamX
abbrev RoomN := L2H.RoomH
theorem roomN_mark {k : Nat} {A : Around} {v : Option Value} (r : Room k A) : RoomN k (A.mark v) := ⟨r.dp, r.un⟩
theorem RoomN.in1 {k : Nat} {A : Around} (r : RoomN (k + 1) A) : RoomN k A.in1 :=
  ⟨(by have h := r.dp; show A.depth + (3 * k + 5) < _; omega), (by have h := r.un; show (A.units + 1) + (16 * k + 200) < _; omega)⟩
structure FnN (P : Program) (w : World) (K : PySem.W.Frag) (mg : Str → Option Value) (base : Heap) (k : Nat) (f : Addr) (fd : FuncData) (ps : List Str) (sp : Sp) : Prop where
  len : ∀ vs H Q E, sp vs H Q E → vs.length = ps.length
  run : ∀ (A : Around) (outer : List Env) (s : Shared) (H : Hp) (args : Args) (us : List Value) (vs : List V) (Q : VK), RoomN k A → Env0 P w K mg base A outer s H → BindsTo s fd args (ps.zip us) → Vals vs us → sp vs H Q E0 → codeAny (model P w) A (.call (.ref f) args) (CR CX0 outer P w H s Q E0) s
/-- the context of its body -/
abbrev cxN (P : Program) (w : World) (K : PySem.W.Frag) (mg : Str → Option Value) (base : Heap) (N : List Str) (qual : Str) (scope : Scope) (f : Addr) (cd : Value) (A : Around) (outer : List Env) (s : Shared) (H : Hp) : Cx :=
  { cxOf CX0 P w K mg base N qual scope f cd A outer s H E0 with calm := false }
theorem ok_cool {X : Cx} {A : Around} {xe : Value → Shared → Prop} (ok : X.Ok) (h : A.frames = X.A.frames) : ({ X with A := A, calm := false, xe := xe } : Cx).Ok :=
  ⟨ok.mod, ok.kind, ok.glob, ok.blt, ok.above, ok.inj, ok.has, ok.cab, (fun z => by cases (show false = true from z)), h.trans ok.frames, ok.stk, ok.exf, ok.bs, ok.bsz, ok.noex, ok.exfs, ok.funs, ok.frf⟩
theorem inv_cool {X : Cx} {A : Around} {xe : Value → Shared → Prop} {pins : List (Addr × Obj)} {σ : L2.St} {H : Hp} {s : Shared} (I : Inv X pins σ H s) (h : A.frames = X.A.frames) : Inv { X with A := A, calm := false, xe := xe } pins σ H s :=
  ⟨ok_cool I.ok h, I.os, I.bare, I.base, I.loc, I.cell, I.free, I.freeC, I.pin, I.hok, I.len⟩
theorem fnn_of {P : Program} {w : World} {K : PySem.W.Frag} {mg : Str → Option Value} {base : Heap} {k : Nat} {f : Addr} {name qual : Str} {params : Arguments} {body : List Stmt} {scope : Scope} {dV kV doc pm cdv ct oc : Value} {an od : Option Addr} {osl : Array (Option Value)} {N ps : List Str} {sp : Sp}
    (lk : K.lookup f = some ⟨oc, od, .func (PySem.W.fnOf name qual params body scope dV kV doc pm an cdv ct), osl⟩) (hcd : PySem.W.codeIn K cdv qual = true) (S : FnScope N ps scope) (len : ∀ vs H Q E, sp vs H Q E → vs.length = ps.length)
    (hbody : ∀ (A : Around) (outer : List Env) (s : Shared) (H : Hp) (vs : List V) (Q : VK), RoomN k (A.deeper (envOfC qual scope s.heap.objs.size f cdv)) → sp vs H Q E0 → ∃ t, PSs (cxN P w K mg base N qual scope f cdv A outer s H) body t ∧ t { nx := fun _ H' => Q .non H', rt := Q } (L2.start N vs) H) :
    FnN P w K mg base (k + 1) f (PySem.W.fnOf name qual params body scope dV kV doc pm an cdv ct) ps sp := by
  refine ⟨len, fun A outer s H args us vs Q hr e0 hb r hsp => ?_⟩
  have hl := len vs H Q E0 hsp
  have KX := PySem.W.Frag.In.keeps e0.mod.kin fun b o e => (e0.bs b o e).1
  have lim := Heap.NoLimit.keeps e0.mod.nolimit fun b o e => (e0.bs b o e).1
  have hkind : ∀ x : Str × Value, x ∈ ps.zip us → List.lookup x.1 scope.names = some NameKind.local ∨ List.lookup x.1 scope.names = some NameKind.cell ∧ (List.lookup x.1 (cellsFrom (s.heap.objs.size + 1) scope.names [])).isSome = true := fun x hy => by
    obtain ⟨n, v⟩ := x
    rcases S.par n (List.of_mem_zip hy).1 with q | q
    · exact Or.inl q
    · exact Or.inr ⟨q, PySem.W.cellsFrom_some scope.names (s.heap.objs.size + 1) [] (Or.inl q)⟩
  refine codeAny_call_function (L2H.RoomH.depth hr) (KX f _ lk) rfl S.co S.gen rfl (PySem.W.codeRec_of KX hcd) (hb (model P w) A.in1 _ _ ?_)
  refine wpAny_newFunctionEnv_cells S.kind hkind fun env he s1 x => ?_
  subst he
  refine ⟨Heap.NoLimit.keeps lim x.toInCall.keep, codeAny_func ?_⟩
  obtain ⟨t, ht, hq⟩ := hbody A outer s H vs Q (L2H.RoomH.deeper hr (envOfC qual scope s.heap.objs.size f cdv)) hsp
  have e1 : Env0 P w K mg base { A with handled := none } outer s H := ⟨e0.frames, e0.mod, e0.bs, e0.bsz, e0.funs, e0.frf, e0.hok, e0.bare⟩
  have I0 := inv_start (CX := CX0) (E := E0) (qual := qual) (f := f) (cd := cdv) S rfl e1 hl r x
  have I : Inv (cxN P w K mg base N qual scope f cdv A outer s H) [] (L2.start N vs) H s1 := inv_cool (X := cxOf CX0 P w K mg base N qual scope f cdv { A with handled := none } outer s H E0) (A := A.deeper (envOfC qual scope s.heap.objs.size f cdv)) (xe := (cxN P w K mg base N qual scope f cdv A outer s H).xe) I0 rfl
  refine wpAny_mono (ht.run [] s1 (L2.start N vs) H _ I hq) (fun fl s' hs => ?_) fun e s' hs => hs
  cases fl with
  | next =>
    obtain ⟨σ', H', J, q⟩ := hs
    exact ⟨.non, H', J.os, J.bare, J.base, J.hok, rfl, q⟩
  | brk =>
    obtain ⟨_, _, _, q⟩ := hs
    exact q.elim
  | cont =>
    obtain ⟨_, _, _, q⟩ := hs
    exact q.elim
  | ret u =>
    obtain ⟨v, σ', H', J, rv, q⟩ := hs
    exact ⟨v, H', J.os, J.bare, J.base, J.hok, rv, q⟩
section
variable {X : Cx} {k j : Nat} {f C : Addr} {fd : FuncData} {ps : List Str} {sp : Sp} {pins : List (Addr × Obj)} {σ : L2.St} {H : Hp} {s : Shared} {Q : VK} {us : List Value} {vs : List V} {A' : Around} {E' : Value → Shared → Prop}
theorem run_n (F : FnN X.prog X.w X.K X.mg X.base k f fd ps sp) (hr : RoomN k A') (hfr : A'.frames = X.A.frames) (hb : Binds X.K fd ps []) (I : Inv X pins σ H s) (r : Vals vs us) (h : sp vs H Q E0) :
    wpAny (model X.prog X.w) A' (call (.ref f) us) (EP X pins σ Q) E' s := by
  have e := I.env0
  have hl := F.len vs H Q E0 h
  refine wpAny_call (codeAny_mono (F.run A' X.stack s H ⟨us, []⟩ us vs Q hr ⟨by rw [hfr]; exact e.frames, e.mod, e.bs, e.bsz, e.funs, e.frf, e.hok, e.bare⟩ ?_ r h) fun r' s' hq => ?_)
  · have := hb s us I.kIn (by rw [List.append_nil, ← r.length]; exact hl)
    rw [List.append_nil] at this
    exact this
  · match r', hq with
    | .ok (.ret u), hq => exact I.after hq
    | .ok .next, hq => exact hq.elim
    | .ok .brk, hq => exact hq.elim
    | .ok .cont, hq => exact hq.elim
    | .error e, hq => exact (show False from hq).elim
end
end Ly
namespace Ly
open PySem PySem.Spec PyProof.Rows L2 LamX
structure MtN (W : Wd) (k : Nat) (C : Addr) (m : Str) (sp : Sp) : Prop where
  ex : ∃ (f : Addr) (fd : FuncData) (ps : List Str), Meth W.K C m f ∧ FnN W.P W.w W.K W.mg W.base k f fd ps sp ∧ Binds W.K fd ps []
structure PpN (W : Wd) (k : Nat) (C : Addr) (m : Str) (sp : Sp) : Prop where
  ex : ∃ (p g : Addr) (fd : FuncData) (ps : List Str), PropOf W.K C m p g ∧ FnN W.P W.w W.K W.mg W.base k g fd ps sp ∧ Binds W.K fd ps []
def BodyN (W : Wd) (k : Nat) (N : List Str) (qual : Str) (st : Stmt) (sp : Sp) : Prop :=
  ∀ (f : Addr) (cdv : Value) (A : Around) (outer : List Env) (s : Shared) (H : Hp) (vs : List V) (Q : VK), RoomN k (A.deeper (envOfC qual (defScope st) s.heap.objs.size f cdv)) → sp vs H Q E0 →
      ∃ t, PSs (cxN W.P W.w W.K W.mg W.base N qual (defScope st) f cdv A outer s H) (defBody st) t ∧ t { nx := fun _ H' => Q .non H', rt := Q } (L2.start N vs) H
theorem fnn_fun {W : Wd} {k : Nat} {x qual : Str} {st : Stmt} {f : Addr} {fd : FuncData} {N ps : List Str} {sp : Sp} (F : L2.Fun W.K x qual st f fd) (S : FnScope N ps (defScope st)) (len : ∀ vs H Q E, sp vs H Q E → vs.length = ps.length) (hbody : BodyN W k N qual st sp) : FnN W.P W.w W.K W.mg W.base (k + 1) f fd ps sp := by
  obtain ⟨oc, od, kV, doc, pm, an, cdv, ct, osl, rfl, lk, hcd⟩ := F.ex
  exact fnn_of lk hcd S len fun A outer s H vs Q hr hsp => hbody f cdv A outer s H vs Q hr hsp
section
variable {W : Wd} {k : Nat} {C : Addr} {m qual : Str} {st : Stmt} {N ps : List Str} {sp : Sp}
theorem mtn_of (g : GM W.K C m qual st) (S : FnScope N ps (defScope st)) (hb : BindOk m qual st ps) (len : ∀ vs H Q E, sp vs H Q E → vs.length = ps.length) (hbody : BodyN W k N qual st sp) : MtN W (k + 1) C m sp := by
  obtain ⟨f, fd, F, hm⟩ := g.ex
  exact ⟨f, fd, ps, hm, fnn_fun F S len hbody, F.binds hb⟩
theorem ppn_of (g : GP W.K C m qual st) (S : FnScope N ps (defScope st)) (hb : BindOk m qual st ps) (len : ∀ vs H Q E, sp vs H Q E → vs.length = ps.length) (hbody : BodyN W k N qual st sp) : PpN W (k + 1) C m sp := by
  obtain ⟨p, f, fd, F, hm⟩ := g.ex
  exact ⟨p, f, fd, ps, hm, fnn_fun F S len hbody, F.binds hb⟩
end
section
variable {X : Cx} {k j : Nat} {C : Addr} {m : Str} {sp : Sp} {pos : Pos} {e : Expr} {ta : TE}
theorem getprop_n {pins : List (Addr × Obj)} {σ : L2.St} {H : Hp} {s : Shared} {Q : VK} {b : Bool} {E' : Value → Shared → Prop} {a dx : Addr} {fs : List (Str × V)} (h : PpN ⟨X.prog, X.w, X.K, X.mg, X.base⟩ k C m sp) (I : Inv X pins σ H s) (ea : H a = some (.ins C dx fs)) (c : Cls X.K C) (hr : RoomN (k + 1) X.A)
    (q : sp [.ref a] H Q E0) : wpAny (model X.prog X.w) X.A (getAttr (.ref a) m b) (EP X pins σ Q) E' s := by
  obtain ⟨p, g, fd, ps, hp, F, hb⟩ := h.ex
  obtain ⟨_, O, _⟩ := ins_get I.hok ea
  obtain ⟨_, J, _⟩ := O.look
  obtain ⟨_, hrec⟩ := hp.rec_
  have It := I.tok (s.toks + 1)
  obtain ⟨g1, g2⟩ := PySem.W.plainGet_of (c.get m)
  have hc : (PySem.W.clsIn X.K C).isSome = true := by
    obtain ⟨_, hc, _⟩ := PySem.W.any_some c.hd
    rw [hc]; rfl
  refine PySem.W.get_bind I.kIn J g1 (PySem.W.findObj_data hc hp.at_ hp.get hp.tak) g2 ?_
  refine wpAny_call (PySem.W.prop_get (s := { s with toks := s.toks + 1 }) I.kIn hrec ?_)
  have hl := F.len _ _ _ _ q
  have bd := hb _ [.ref a] It.kIn (by rw [List.append_nil]; exact hl)
  rw [List.append_nil] at bd
  have e1 := It.env0
  refine codeAny_mono (F.run X.A.in1 X.stack _ H ⟨[.ref a], []⟩ [.ref a] [.ref a] Q (RoomN.in1 hr) ⟨e1.frames, e1.mod, e1.bs, e1.bsz, e1.funs, e1.frf, e1.hok, e1.bare⟩ bd (.cons rfl .nil) q) fun r s' hq => ?_
  match r, hq with
  | .ok (.ret u), hq =>
    obtain ⟨v, H', I3, rv, q3⟩ := It.after hq
    show wpAny _ _ (handedOut u) _ _ _
    rw [PySem.W.handedOut_of (handed_of rv)]
    exact wpAny_pure ⟨v, H', I3, rv, q3⟩
  | .ok .next, hq => exact hq.elim
  | .ok .brk, hq => exact hq.elim
  | .ok .cont, hq => exact hq.elim
  | .error e, hq => exact (show False from hq).elim
theorem pe_ppN (c : Cls X.K C) (h : PpN ⟨X.prog, X.w, X.K, X.mg, X.base⟩ k C m sp) (hr : RoomN j X.A) (hk : k + 1 ≤ j) (he : PE X e ta) (hab : attributeBase e m X.env (eval e X.env) = eval e X.env) : PE X (.Attribute e m pos) (tProp C sp [] E0 ta) := by
  refine ⟨fun pins s σ H Q I q => attr_of hab (thn (he.run pins s σ H _ I q) fun u s1 hx => ?_)⟩
  obtain ⟨x, H1, I1, rx, a, dx, fs, rfl, ea, q1⟩ := hx
  obtain rfl : u = Value.ref a := rx
  exact getprop_n h I1 ea c (hr.mono hk) q1
theorem call_reprN (h : MtN ⟨X.prog, X.w, X.K, X.mg, X.base⟩ k C "__repr__" sp) (hr : RoomN j X.A) (hk : k + 2 ≤ j) : CallR X (.builtin "repr") (rSOwn C sp) := by
  obtain ⟨f, fd, ps, hm, F, hb⟩ := h.ex
  intro pins s σ H xs us Q I r q
  obtain ⟨a, dx, fs, rfl, ha, q⟩ := q
  obtain ⟨u, rfl, ru⟩ := vals1 r
  cases ru
  obtain ⟨_, O, _⟩ := ins_get I.hok ha
  obtain ⟨_, J, _⟩ := O.look
  obtain ⟨_, hF⟩ := I.fr
  have r1 : RoomN (k + 1) X.A.in1 := RoomN.in1 (hr.mono hk)
  have hu : X.A.in1.units < cLine := by have := r1.un; omega
  refine PySem.W.repr_K hu hF I.ok.mod.kin J hm.at_ hm.fn ?_
  refine wpAny_mono (run_n (us := [.ref a]) (vs := [.ref a]) F (r1.mono (Nat.le_succ k)) rfl hb I (.cons rfl .nil) q) (fun v s' hv => ?_) fun _ _ e => e
  obtain ⟨_, H', I', rv, ⟨z, rfl⟩, qv⟩ := hv
  obtain ⟨tk, rfl⟩ := rv
  exact ⟨.str z, H', I', ⟨tk, rfl⟩, qv⟩
end
end Ly
namespace Ly
open PySem PySem.Spec PyProof.Rows L2 LamX
section
variable {X : Cx} {k j : Nat}
def rReprB : List V → Hp → VK → Prop := fun xs H Q => ∃ b : Bool, xs = [.bl b] ∧ Q (.str (if b then "True" else "False")) H
theorem call_reprB : CallR X (.builtin "repr") rReprB := by
  intro pins s σ H xs us Q I r q
  obtain ⟨b, rfl, q⟩ := q
  obtain ⟨u, rfl, ru⟩ := vals1 r
  cases (show u = .bool b from ru)
  exact PySem.P.repr_of_bool ⟨.str _, H, I.tok _, ⟨_, rfl⟩, q⟩
def rReprNo : List V → Hp → VK → Prop := fun xs H Q => xs = [.non] ∧ Q (.str "None") H
theorem call_reprNo : CallR X (.builtin "repr") rReprNo := by
  intro pins s σ H xs us Q I r q
  obtain ⟨rfl, q⟩ := q
  obtain ⟨u, rfl, ru⟩ := vals1 r
  cases (show u = .none from ru)
  exact PySem.P.repr_of_none ⟨.str _, H, I.tok _, ⟨_, rfl⟩, q⟩
def rReprIn : List V → Hp → VK → Prop := fun xs H Q => ∃ i : Int, xs = [.int i] ∧ i.natAbs.log2 < 1920 ∧ Q (.str (toString i)) H
theorem call_reprIn : CallR X (.builtin "repr") rReprIn := SkE.call_repr_int
/-- an empty dict -/
def rReprE : List V → Hp → VK → Prop := fun xs H Q => ∃ (a : Addr), xs = [.ref a] ∧ Rd H a (.dK []) ∧ Q (.str "{}") H
theorem call_reprE (hr : RoomN j X.A) (hgd : X.A.guards = some []) : CallR X (.builtin "repr") rReprE := by
  intro pins s σ H xs us Q I r q
  obtain ⟨a, rfl, ha, q⟩ := q
  obtain ⟨u, rfl, ru⟩ := vals1 r
  cases ru
  obtain ⟨_, hs, va, rv, da⟩ := dk_rd I.hok ha
  obtain ⟨oa, es, ep, hoa, hc, hd, _, hp, _⟩ := da
  have e0 : va = [] := by cases rv; rfl
  subst e0
  have e1 : es.toList = [] := by
    have z := hp.length
    exact List.length_eq_zero_iff.mp (by simpa using z)
  have rd : Reads s.heap (.ref a) (.dict []) (a :: [] ++ []) := Reads.dict hoa hc.1 hd (by rw [e1]; exact .nil) (by rw [e1]; exact .nil)
  have hu := hr.un
  refine PySem.repr_of_reads' rd (by simp [PyData.showable, PyData.showableKv]) (fun _ z => ?_) hgd (by simp [PyData.depth, PyData.depthKv]; omega) (fun b o e => e) (fun h' u tk hk => ?_) (by decide +kernel)
  · have z : sysModules = a := by simpa using z
    rw [← z] at hs
    simp at hs
  · rw [show (PyData.dict []).shown = "{}" by decide +kernel]
    exact ⟨.str "{}", H, I.turnedL (ch := []) (fun b o _ e => hk b o e) (fun b z => by cases z), ⟨u, rfl⟩, q⟩
theorem call_reprDN (hr : RoomN j X.A) (hgd : X.A.guards = some []) : CallR X (.builtin "repr") (rReprD X.K) := by
  intro pins s σ H xs us Q I r q
  obtain ⟨a, d, rfl, hd, sh, nd, dp, ln, q⟩ := q
  obtain ⟨u, rfl, ru⟩ := vals1 r
  cases ru
  obtain ⟨as, hR⟩ := Dp.reads I d _ _ hd rfl
  have hu := hr.un
  refine PySem.repr_of_reads' hR sh (fun z => by rw [nd] at z; cases z) hgd (by omega) (fun b o e => e) (fun h' u tk hk => ?_) ln
  exact ⟨.str d.shown, H, I.turnedL (ch := []) (fun b o _ e => hk b o e) (fun b z => by cases z), ⟨u, rfl⟩, q⟩
/-- repr of a value without own objects -/
def rReprP (K : PySem.W.Frag) : List V → Hp → VK → Prop := fun xs H Q => rReprS xs H Q ∨ rReprIn xs H Q ∨ rReprB xs H Q ∨ rReprNo xs H Q ∨ rReprE xs H Q ∨ rReprD K xs H Q
theorem call_reprP (hr : RoomN j X.A) (hgd : X.A.guards = some []) : CallR X (.builtin "repr") (rReprP X.K) :=
  call_or call_reprS (call_or call_reprIn (call_or call_reprB (call_or call_reprNo (call_or (call_reprE hr hgd) (call_reprDN hr hgd)))))
end
end Ly
namespace Dt
open PySem PySem.Spec PyProof.Rows L2 Ly
/-- which text is the repr of a value without own objects -/
inductive Rtx : D → Str → Prop
  | str {x : Str} (h : (reprText x).length ≤ sizeLine) : Rtx (.str x) (reprText x)
  | int {i : Int} (h : i.natAbs.log2 < 1920) : Rtx (.int i) (toString i)
  | bl {b : Bool} : Rtx (.bl b) (if b then "True" else "False")
  | non : Rtx .non "None"
  | nod : Rtx (.dct []) "{}"
  | lst {ds : List D} {p : PyData} (h : Pl (.lst ds) p) (s1 : p.showable = true) (s2 : p.hasDict = false) (s3 : p.depth ≤ 40) (s4 : p.shown.length ≤ sizeLine) : Rtx (.lst ds) p.shown
  | tup {ds : List D} {p : PyData} (h : Pl (.tup ds) p) (s1 : p.showable = true) (s2 : p.hasDict = false) (s3 : p.depth ≤ 40) (s4 : p.shown.length ≤ sizeLine) : Rtx (.tup ds) p.shown
theorem wcb_rtx {π : Po} {K : PySem.W.Frag} {k : Rv → Prop} {x : D} {t : Str} (h : Rtx x t) (q : k (.d (.str t))) : WCb π (rReprP K) [.d x] k := fun X H0 H xs Q o0 o k0 ra hQ => by
  match xs, ra with
  | [v], ⟨ra, _⟩ =>
    have ra : At (cut X H) v x := ra
    have fin : Q (.str t) H := hQ _ (.d (.str t)) H o.kp (At.str t) q
    cases h with
    | str h => cases ra; exact .inl ⟨_, rfl, h, fin⟩
    | int h => cases ra; exact .inr (.inl ⟨_, rfl, h, fin⟩)
    | bl => cases ra; exact .inr (.inr (.inl ⟨_, rfl, fin⟩))
    | non => cases ra; exact .inr (.inr (.inr (.inl ⟨rfl, fin⟩)))
    | nod =>
      cases ra with
      | dct e ek t =>
        have e := rd_cut e
        rw [List.map_eq_nil_iff.mp ek] at e
        exact .inr (.inr (.inr (.inr (.inl ⟨_, rfl, e, fin⟩))))
    | lst h s1 s2 s3 s4 =>
      have z := at_dp (K := K) (ra.mono (.of cut_same)) h
      cases ra
      exact .inr (.inr (.inr (.inr (.inr ⟨_, _, rfl, z, s1, s2, s3, s4, fin⟩))))
    | tup h s1 s2 s3 s4 =>
      have z := at_dp (K := K) (ra.mono (.of cut_same)) h
      cases ra
      exact .inr (.inr (.inr (.inr (.inr ⟨_, _, rfl, z, s1, s2, s3, s4, fin⟩))))
end Dt
namespace Dt
open PySem PySem.Spec PyProof.Rows L2 Ly
section
variable {W : Wd} {k : Nat} {C : Addr} {N ps : List Str} {m qual : Str} {st : Stmt} {pt : Bool} {B : List Rv → (Rv → Prop) → Prop}
theorem body_N {n l : Nat} (hm : N.length - n = l) (hB : ∀ rs k, B rs k → rs.length = n)
    (hb : ∀ (f : Addr) (cdv : Value) (A : Around) (outer : List Env) (s : Shared) (H : Hp), RoomN k (A.deeper (envOfC qual (defScope st) s.heap.objs.size f cdv)) →
      ∃ t, PSs (cxN W.P W.w W.K W.mg W.base N qual (defScope st) f cdv A outer s H) (defBody st) t ∧ ∀ (π : Po) (rs : List Rv) (kr : Rv → Prop), π.pot.isSome = pt → B rs kr → Ws π t { nx := fun _ => kr (.d .non), rt := kr } (rs ++ uns l)) :
    BodyN W k N qual st (spW pt B) := fun f cdv A outer s H vs Q hr h => by
  obtain ⟨t, ps, w⟩ := hb f cdv A outer s H hr
  exact ⟨t, ps, run_body hm hB w h⟩
theorem mtn_W (g : GM W.K C m qual st) (S : FnScope N ps (defScope st)) (hb : BindOk m qual st ps) (hB : ∀ rs k, B rs k → rs.length = ps.length) (hbody : BodyN W k N qual st (spW pt B)) : MtN W (k + 1) C m (spW pt B) := mtn_of g S hb (len_W hB) hbody
theorem ppn_W (g : GP W.K C m qual st) (S : FnScope N ps (defScope st)) (hb : BindOk m qual st ps) (hB : ∀ rs k, B rs k → rs.length = ps.length) (hbody : BodyN W k N qual st (spW pt B)) : PpN W (k + 1) C m (spW pt B) := ppn_of g S hb (len_W hB) hbody
end
end Dt
namespace Ly
open PySem PySem.Spec PyProof.Rows L2
section
variable {K : PySem.W.Frag} {h : Heap} {mg : Str → Option Value} {fa : List (PySem.W.Frag → Bool)} {fn : List DfX}
theorem SaysX.fact (c : SaysX fa fn K) (i : Nat) {f : PySem.W.Frag → Bool} (h : fa[i]? = some f := by rfl) : f K = true := by
  have c1 := (He.ba (show ((fa.all fun f => f K) && fn.all fun d => d.ok K) = true from congrArg (fun z : AlX => z.1) c)).1
  exact List.all_eq_true.mp c1 f (List.mem_of_getElem? h)
theorem DfX.funD {d : DfX} (e : d.look K = d.val) (c : d.ok K = true) : ∃ fd, FunD K d.name d.qual (defArgs d.st) (defBody d.st) (defScope d.st) (d.dvs K) [] (d.ad K) fd := by
  obtain ⟨kp, c2⟩ := He.ba c
  unfold DfX.look at e
  cases q : K.lookup (d.ad K) with
  | none =>
    rw [q] at c2
    cases c2
  | some o =>
    obtain ⟨oc, od, dt, osl⟩ := o
    rw [q] at c2 e
    cases dt with
    | func fd =>
      obtain ⟨n1, n2, n3, n4, n5, n6, n7, n8, n9, n10, n11, n12, n13, n14, n15⟩ := fd
      have e2 : (some (n1, n2, n3, n4, n5, n6, n7, n15) : He.FnW) = some (d.name, d.qual, defArgs d.st, .stmts (defBody d.st), defScope d.st, mainGlobals, [], builtinsNs) := e
      simp only [Option.some.injEq, Prod.mk.injEq] at e2
      obtain ⟨h1, h2, h3, h4, h5, h6, h7, h8⟩ := e2
      subst h1 h2 h3 h4 h5 h6 h7 h8
      obtain ⟨k1, k3⟩ := He.ba (show (PySem.W.codeIn K n13 d.qual && He.dflB K n8 (d.dvs K)) = true from c2)
      exact ⟨_, ⟨oc, od, n8, n9, n10, n11, n12, n13, n14, osl, rfl, q, k1, He.dflB_ok k3, .inl rfl⟩, kp⟩
    | _ => cases c2
theorem SaysX.def_ (c : SaysX fa fn K) (i : Nat) {d : DfX} (h : fn[i]? = some d := by rfl) : ∃ fd, FunD K d.name d.qual (defArgs d.st) (defBody d.st) (defScope d.st) (d.dvs K) [] (d.ad K) fd := by
  have c2 := (He.ba (show ((fa.all fun f => f K) && fn.all fun d => d.ok K) = true from congrArg (fun z : AlX => z.1) c)).2
  have e : fn.map (fun d => d.look K) = fn.map DfX.val := congrArg (fun z : AlX => z.2) c
  have e2 : (fn.map fun d => d.look K)[i]? = (fn.map DfX.val)[i]? := by rw [e]
  rw [List.getElem?_map, List.getElem?_map, h] at e2
  exact DfX.funD (Option.some.inj e2) (List.all_eq_true.mp c2 d (List.mem_of_getElem? h))
theorem funX {x qual : Str} {st : Stmt} {f : Addr} {fd : FuncData} (F : FunD K x qual (defArgs st) (defBody st) (defScope st) [] [] f fd) : L2.Fun K x qual st f fd := by
  obtain ⟨oc, od, dV, kV, doc, pm, an, cdv, ct, osl, rfl, lk, hcd, hD, hK⟩ := F.ex
  rcases hD with ⟨_, rfl⟩ | ⟨e, _⟩
  · exact fun_mk lk hcd F.kp
  · exact absurd rfl e
theorem bloB_ok (X : K.In h) (G : h.Ns mainGlobals mg) {x : Str} (c : bloB K x = true) : mg x = some (.ref (He.ga K x)) := PySem.W.mg_of X G (He.eqO_ok c)
theorem freB_ok (X : K.In h) (G : h.Ns mainGlobals mg) {x : Str} (c : freB K x = true) : mg x = none := PySem.W.mg_none_of X G (He.eqO_ok c)
theorem biB_ok (X : K.In h) (G : h.Ns mainGlobals mg) {x : Str} {b : String} (c : biB K x b = true) : mg x = some (.builtin b) := PySem.W.mg_of X G (He.eqO_ok c)
theorem rcB_ok {p : Addr} {T : String} (c : rcB K p T = true) : ∃ rest, PySem.W.recIn K p T = some (.ref (rcA K p T) :: rest) := by
  unfold rcB at c
  unfold rcA
  split at c
  · rename_i f r e
    rw [e]
    exact ⟨r, rfl⟩
  · cases c
theorem dec_ok {p : Prop} [Decidable p] (h : decide p = true) : p := of_decide_eq_true h
theorem ownB_ok (X : K.In h) (G : h.Ns mainGlobals mg) {x : Str} (c : ownB K x = true) : OwnC K mg x (He.ga K x) := by
  obtain ⟨h1, c⟩ := He.ba c
  obtain ⟨h2, c⟩ := He.ba c
  obtain ⟨h3, c⟩ := He.ba c
  obtain ⟨h4, c⟩ := He.ba c
  obtain ⟨h5, c⟩ := He.ba c
  obtain ⟨h6, c⟩ := He.ba c
  obtain ⟨h7, c⟩ := He.ba c
  obtain ⟨h8, c⟩ := He.ba c
  obtain ⟨h9, c⟩ := He.ba c
  obtain ⟨h10, c⟩ := He.ba c
  obtain ⟨h11, h12⟩ := He.ba c
  obtain ⟨cd, hcd, _⟩ := mro2_of h5
  exact ⟨bloB_ok X G h1, He.cls_ok h2, h3, h4, h5, dec_ok h6, dec_ok h7, dec_ok h8, h9, kO_mk, kI_mk hcd (dec_ok h10) (dec_ok h6), He.eqO_ok h11, dec_ok h12⟩
theorem noaB_ok {x f : Str} (c : noaB K x f = true) : NoAttr K (He.ga K x) f := He.eqO_ok c
theorem kitXB_ok {x : Str} {T : String} (c : kitXB K x T = true) : PySem.W.kitOne K (.type T) (.ref (He.ga K x)) = some false := by
  obtain ⟨h1, c⟩ := He.ba c
  obtain ⟨h2, h3⟩ := He.ba c
  obtain ⟨cd, hcd⟩ := Option.isSome_iff_exists.mp h1
  exact kT_mk hcd (dec_ok h2) (dec_ok h3)
theorem rdB_ok {x : Str} (c : rdB K x = true) : ClX.CRead K (He.ga K x) (.type "type") := ⟨(He.ba c).1, He.eqO_ok (He.ba c).2⟩
theorem gfX {x : Str} {st : Stmt} (X : K.In h) (G : h.Ns mainGlobals mg) (c : bloB K x = true)
    (d : ∃ fd, FunD K x x (defArgs st) (defBody st) (defScope st) [] [] (He.ga K x) fd) : GF K mg x st := by
  obtain ⟨fd, F⟩ := d
  exact ⟨He.ga K x, fd, funX F, bloB_ok X G c⟩
theorem gmX {x m qual : Str} {st : Stmt} (c : metB K x m = true) (d : ∃ fd, FunD K m qual (defArgs st) (defBody st) (defScope st) [] [] (He.ma K (He.ga K x) m) fd) : GM K (He.ga K x) m qual st := by
  obtain ⟨fd, F⟩ := d
  exact ⟨_, fd, funX F, He.meth_ok c⟩
theorem gpX {x m qual : Str} {st : Stmt} (c : prpB K x m = true) (d : ∃ fd, FunD K m qual (defArgs st) (defBody st) (defScope st) [] [] (gpA K x m) fd) : GP K (He.ga K x) m qual st := by
  obtain ⟨fd, F⟩ := d
  obtain ⟨h1, c⟩ := He.ba c
  obtain ⟨h2, c⟩ := He.ba c
  obtain ⟨h3, h4⟩ := He.ba c
  exact ⟨_, _, fd, funX F, ⟨He.eqO_ok h1, He.eqO_ok h2, dec_ok h3, rcB_ok h4⟩⟩
theorem gsX {x m qual : Str} {st : Stmt} (c : staB K x m = true) (d : ∃ fd, FunD K m qual (defArgs st) (defBody st) (defScope st) [] [] (gsA K x m) fd) : GS K (He.ga K x) m qual st := by
  obtain ⟨fd, F⟩ := d
  obtain ⟨h1, c⟩ := He.ba c
  obtain ⟨h2, h3⟩ := He.ba c
  have e : PySem.W.findCls K (.ref (He.ga K x)) (.type "type") m = some (.get (.builtin "staticmethod.__get__") (.ref (stA K x m)) .none (.ref (He.ga K x))) := by
    unfold stA
    split at h2
    · rename_i b p cc e
      obtain ⟨q1, q2⟩ := He.ba h2
      rw [e]
      rw [dec_ok q1, dec_ok q2]
    · cases h2
  exact ⟨_, _, fd, _, funX F, ⟨e, rcB_ok h3, F.kp⟩, rdB_ok h1⟩
theorem giX {x qual : Str} {st : Stmt} {dvs : List V} (c : mkrB K x = true) (d : ∃ fd, FunD K "__init__" qual (defArgs st) (defBody st) (defScope st) dvs [] (He.ma K (He.ga K x) "__init__") fd) : GI K (He.ga K x) qual st dvs := by
  obtain ⟨fd, F⟩ := d
  exact ⟨_, fd, F, He.mkr_ok c⟩
theorem xFacts (k : Nat) : ∃ newId, newId = xNew k ∧ ∃ B initId, ExcBaseFacts B newId initId (xTail k) ∧ StoreFacts B (xTail k) "object.__setattr__" "object" := by
  match k with
  | 0 => exact ⟨_, rfl, _, _, PySem.F.excBase_ValueError, PySem.F.store_ValueError⟩
  | 1 => exact ⟨_, rfl, _, _, PySem.F.excBase_LookupError, PySem.F.store_LookupError⟩
  | 2 => exact ⟨_, rfl, _, _, PySem.F.excBase_RuntimeError, PySem.F.store_RuntimeError⟩
  | _ + 3 => exact ⟨_, rfl, _, _, PySem.F.excBase_ArithmeticError, PySem.F.store_ArithmeticError⟩
theorem gxX {x qual : Str} {st : Stmt} {k : Nat} (X : K.In h) (G : h.Ns mainGlobals mg) (c : xcB K x k = true) (d : ∃ fd, FunD K "__init__" qual (defArgs st) (defBody st) (defScope st) [] [] (He.ma K (He.ga K x) "__init__") fd) : GX K mg x (He.ga K x) qual st := by
  obtain ⟨fd, F⟩ := d
  obtain ⟨h1, c⟩ := He.ba c
  obtain ⟨h2, c⟩ := He.ba c
  obtain ⟨h3, c⟩ := He.ba c
  obtain ⟨h4, c⟩ := He.ba c
  obtain ⟨h5, c⟩ := He.ba c
  obtain ⟨h6, c⟩ := He.ba c
  obtain ⟨h7, c⟩ := He.ba c
  obtain ⟨h8, c⟩ := He.ba c
  obtain ⟨h9, c⟩ := He.ba c
  obtain ⟨h10, c⟩ := He.ba c
  obtain ⟨h11, c⟩ := He.ba c
  obtain ⟨h12, c⟩ := He.ba c
  obtain ⟨h13, c⟩ := He.ba c
  obtain ⟨h14, h15⟩ := He.ba c
  obtain ⟨newId, en, B, initId, fb, sf⟩ := xFacts k
  rw [← en] at h1
  exact ⟨⟨⟨B, newId, initId, xTail k, fb, sf, h1, h2⟩, h3, He.eqO_ok h4, He.eqO_ok h5, He.eqO_ok h6, dec_ok h7, h8, He.eqO_ok h9, He.eqO_ok h10, dec_ok h11, dec_ok h12⟩, bloB_ok X G h13, _, fd, funX F, He.eqO_ok h14, dec_ok h15⟩
theorem gfcX {x : Str} {st : Stmt} (X : K.In h) (G : h.Ns mainGlobals mg) (c : bloB K x = true) (t : TbL K h x)
    (d : ∃ fd, FunD K x x (defArgs st) (defBody st) (defScope st) [] [] (He.ga K x) fd) : GFC K mg x st (tcP K x).1 := by
  obtain ⟨fd, F⟩ := d
  have F2 := funX F
  refine ⟨He.ga K x, fd, F2, bloB_ok X G c, ?_⟩
  obtain ⟨oc, od, kV, doc, pm, an, cdv, ct, osl, rfl, lk, hcd⟩ := F2.ex
  have e := t.tab
  unfold PySem.W.tabIn at e
  rw [He.eqO_ok c] at e
  dsimp only at e
  rw [lk] at e
  dsimp only [PySem.W.fnOf] at e ⊢
  split at e
  · split at e
    · split at e
      · have e2 := congrArg (fun p : Addr × Addr => p.1) (Option.some.inj e)
        rw [← e2]
      · cases e
    · cases e
  · cases e
end
theorem walk_ofY {l : PySem.W.OpenLaw} {n k : Nat} {q : Program} {loose : List Str} {XP : (Str → Option Value) → Heap → Prop} {YP : World → Heap → Prop} {d : DefRec} {x : Str} (hn : l.most = some n) (hn2 : n ≤ sizeLine) (hdf : d.params.defaults = []) (hr : Room k callerA)
    (F : ∀ (w : World) (mg : Str → Option Value) (fa : Addr) (h : Heap), YP w h → h.Ns mainGlobals mg → mg d.name = some (.ref fa) → ∃ (K : PySem.W.Frag) (fd : FuncData) (cs : List (Addr × Addr)) (sp : Sp), K.In h ∧ (∀ p ∈ cs, TbOk K h p.1 p.2) ∧ (∀ (s : Shared) (u : Value), BindsTo s fd ⟨[u], []⟩ [(x, u)]) ∧
      (∀ (H : Hp) (a : Addr) (ns : List Int), ns.length ≤ n → (∀ p ∈ cs, H p.2 = some (.tbl #[])) → SqL K H a (ns.map V.int) → sp [.ref a] H (fun v _ => v = .bl true) fun _ _ _ => False) ∧ ∀ base : Heap, K.In base → base.Ns mainGlobals mg → (∀ p ∈ cs, LamX.TabB base mg p.1 p.2) → FnG l.prog w K mg base k fa fd [x] sp) :
    PySem.W.WalkO q loose XP YP l.row.toRowW d [] (fun f vs => PySem.call f vs) := by
  refine Att.attach_call hn hdf fun w s₀ s₁ mg mb fa o pm cd doc a vs ns G Y ho hd hcd hmg hobj hints hlen hg => ?_
  obtain ⟨K, fd, cs, sp, KX, hcs, hb, hsp, hF⟩ := F w mg fa _ Y G.T.g hmg
  exact law_callGT KX G.T.g G.T.b G.T.builtins G.T.nolimit hg hcs G.T.bmain hobj hints (Nat.le_trans hlen hn2) hr hF hb fun H hO hS => hsp H a ns hlen hO hS
end Ly
namespace Lw
open PySem PySem.Spec PyProof.Rows L2 Ly
abbrev N_is_integer : List Str := ["value"]
theorem sc_is_integer : FnScope N_is_integer ["value"] (defScope s_is_integer) := ⟨rfl, rfl, rfl, by decide +kernel, rfl, by decide +kernel, by decide +kernel⟩
theorem bd_is_integer : BindOk "is_integer" "is_integer" s_is_integer ["value"] := fun _ _ _ _ _ _ us hl => match us, hl with | [_], _ => rfl
abbrev N_is_count : List Str := ["value"]
theorem sc_is_count : FnScope N_is_count ["value"] (defScope s_is_count) := ⟨rfl, rfl, rfl, by decide +kernel, rfl, by decide +kernel, by decide +kernel⟩
theorem bd_is_count : BindOk "is_count" "is_count" s_is_count ["value"] := fun _ _ _ _ _ _ us hl => match us, hl with | [_], _ => rfl
abbrev N_is_name : List Str := ["value"]
theorem sc_is_name : FnScope N_is_name ["value"] (defScope s_is_name) := ⟨rfl, rfl, rfl, by decide +kernel, rfl, by decide +kernel, by decide +kernel⟩
theorem bd_is_name : BindOk "is_name" "is_name" s_is_name ["value"] := fun _ _ _ _ _ _ us hl => match us, hl with | [_], _ => rfl
abbrev N_InvalidNumber_init : List Str := ["self", "value"]
theorem sc_InvalidNumber_init : FnScope N_InvalidNumber_init ["self", "value"] (defScope s_InvalidNumber_init) := ⟨rfl, rfl, rfl, by decide +kernel, rfl, by decide +kernel, by decide +kernel⟩
theorem xb_InvalidNumber : XBindOk "InvalidNumber.__init__" s_InvalidNumber_init ["self", "value"] 1 [] := fun _ _ _ _ _ _ us ws hl h2 => match us, ws, hl, h2 with | [_, _], [], _, _ => rfl
abbrev N_InvalidName_init : List Str := ["self", "value"]
theorem sc_InvalidName_init : FnScope N_InvalidName_init ["self", "value"] (defScope s_InvalidName_init) := ⟨rfl, rfl, rfl, by decide +kernel, rfl, by decide +kernel, by decide +kernel⟩
theorem xb_InvalidName : XBindOk "InvalidName.__init__" s_InvalidName_init ["self", "value"] 1 [] := fun _ _ _ _ _ _ us ws hl h2 => match us, ws, hl, h2 with | [_, _], [], _, _ => rfl
abbrev N_InvalidMoves_init : List Str := ["self", "position"]
theorem sc_InvalidMoves_init : FnScope N_InvalidMoves_init ["self", "position"] (defScope s_InvalidMoves_init) := ⟨rfl, rfl, rfl, by decide +kernel, rfl, by decide +kernel, by decide +kernel⟩
theorem xb_InvalidMoves : XBindOk "InvalidMoves.__init__" s_InvalidMoves_init ["self", "position"] 1 [] := fun _ _ _ _ _ _ us ws hl h2 => match us, ws, hl, h2 with | [_, _], [], _, _ => rfl
abbrev N_Ratio_init : List Str := ["self", "top", "bottom", "common"]
theorem sc_Ratio_init : FnScope N_Ratio_init ["self", "top", "bottom"] (defScope s_Ratio_init) := ⟨rfl, rfl, rfl, by decide +kernel, rfl, by decide +kernel, by decide +kernel⟩
abbrev N_Ratio_of : List Str := ["value"]
theorem sc_Ratio_of : FnScope N_Ratio_of ["value"] (defScope s_Ratio_of) := ⟨rfl, rfl, rfl, by decide +kernel, rfl, by decide +kernel, by decide +kernel⟩
theorem bd_Ratio_of : BindOk "of" "Ratio.of" s_Ratio_of ["value"] := fun _ _ _ _ _ _ us hl => match us, hl with | [_], _ => rfl
abbrev N_Ratio_top : List Str := ["self"]
theorem sc_Ratio_top : FnScope N_Ratio_top ["self"] (defScope s_Ratio_top) := ⟨rfl, rfl, rfl, by decide +kernel, rfl, by decide +kernel, by decide +kernel⟩
theorem bd_Ratio_top : BindOk "top" "Ratio.top" s_Ratio_top ["self"] := fun _ _ _ _ _ _ us hl => match us, hl with | [_], _ => rfl
abbrev N_Ratio_repr : List Str := ["self"]
theorem sc_Ratio_repr : FnScope N_Ratio_repr ["self"] (defScope s_Ratio_repr) := ⟨rfl, rfl, rfl, by decide +kernel, rfl, by decide +kernel, by decide +kernel⟩
theorem bd_Ratio_repr : BindOk "__repr__" "Ratio.__repr__" s_Ratio_repr ["self"] := fun _ _ _ _ _ _ us hl => match us, hl with | [_], _ => rfl
abbrev N_is_amount : List Str := ["value"]
theorem sc_is_amount : FnScope N_is_amount ["value"] (defScope s_is_amount) := ⟨rfl, rfl, rfl, by decide +kernel, rfl, by decide +kernel, by decide +kernel⟩
theorem bd_is_amount : BindOk "is_amount" "is_amount" s_is_amount ["value"] := fun _ _ _ _ _ _ us hl => match us, hl with | [_], _ => rfl
abbrev N_Move_init : List Str := ["self", "task", "start", "goal", "name"]
theorem sc_Move_init : FnScope N_Move_init ["self", "task", "start", "goal"] (defScope s_Move_init) := ⟨rfl, rfl, rfl, by decide +kernel, rfl, by decide +kernel, by decide +kernel⟩
abbrev N_Move_task : List Str := ["self"]
theorem sc_Move_task : FnScope N_Move_task ["self"] (defScope s_Move_task) := ⟨rfl, rfl, rfl, by decide +kernel, rfl, by decide +kernel, by decide +kernel⟩
theorem bd_Move_task : BindOk "task" "Move.task" s_Move_task ["self"] := fun _ _ _ _ _ _ us hl => match us, hl with | [_], _ => rfl
abbrev N_Move_start : List Str := ["self"]
theorem sc_Move_start : FnScope N_Move_start ["self"] (defScope s_Move_start) := ⟨rfl, rfl, rfl, by decide +kernel, rfl, by decide +kernel, by decide +kernel⟩
theorem bd_Move_start : BindOk "start" "Move.start" s_Move_start ["self"] := fun _ _ _ _ _ _ us hl => match us, hl with | [_], _ => rfl
abbrev N_Move_goal : List Str := ["self"]
theorem sc_Move_goal : FnScope N_Move_goal ["self"] (defScope s_Move_goal) := ⟨rfl, rfl, rfl, by decide +kernel, rfl, by decide +kernel, by decide +kernel⟩
theorem bd_Move_goal : BindOk "goal" "Move.goal" s_Move_goal ["self"] := fun _ _ _ _ _ _ us hl => match us, hl with | [_], _ => rfl
abbrev N_Move_repr : List Str := ["self"]
theorem sc_Move_repr : FnScope N_Move_repr ["self"] (defScope s_Move_repr) := ⟨rfl, rfl, rfl, by decide +kernel, rfl, by decide +kernel, by decide +kernel⟩
theorem bd_Move_repr : BindOk "__repr__" "Move.__repr__" s_Move_repr ["self"] := fun _ _ _ _ _ _ us hl => match us, hl with | [_], _ => rfl
abbrev N_Gift_init : List Str := ["self", "amount", "moves", "position"]
theorem sc_Gift_init : FnScope N_Gift_init ["self", "amount", "moves"] (defScope s_Gift_init) := ⟨rfl, rfl, rfl, by decide +kernel, rfl, by decide +kernel, by decide +kernel⟩
abbrev N_Gift_single : List Str := ["amount", "task", "start", "goal"]
theorem sc_Gift_single : FnScope N_Gift_single ["amount", "task", "start", "goal"] (defScope s_Gift_single) := ⟨rfl, rfl, rfl, by decide +kernel, rfl, by decide +kernel, by decide +kernel⟩
theorem bd_Gift_single : BindOk "single" "Gift.single" s_Gift_single ["amount", "task", "start", "goal"] := fun _ _ _ _ _ _ us hl => match us, hl with | [_, _, _, _], _ => rfl
abbrev N_break_of : List Str := ["moves", "visited", "position", "move"]
theorem sc_break_of : FnScope N_break_of ["moves"] (defScope s_break_of) := ⟨rfl, rfl, rfl, by decide +kernel, rfl, by decide +kernel, by decide +kernel⟩
theorem bd_break_of : BindOk "break_of" "break_of" s_break_of ["moves"] := fun _ _ _ _ _ _ us hl => match us, hl with | [_], _ => rfl
abbrev N_check_gift_amount : List Str := ["amount"]
theorem sc_check_gift_amount : FnScope N_check_gift_amount ["amount"] (defScope s_check_gift_amount) := ⟨rfl, rfl, rfl, by decide +kernel, rfl, by decide +kernel, by decide +kernel⟩
theorem bd_check_gift_amount : BindOk "check_gift_amount" "check_gift_amount" s_check_gift_amount ["amount"] := fun _ _ _ _ _ _ us hl => match us, hl with | [_], _ => rfl
abbrev N_law_pot : List Str := ["_law_script", "_law_k", "_law_cell"]
theorem sc_law_pot : FnScope N_law_pot ["_law_script", "_law_k"] (defScope s_law_pot) := ⟨rfl, rfl, rfl, by decide +kernel, rfl, by decide +kernel, by decide +kernel⟩
theorem bd_law_pot : BindOk "_law_pot" "_law_pot" s_law_pot ["_law_script", "_law_k"] := fun _ _ _ _ _ _ us hl => match us, hl with | [_, _], _ => rfl
abbrev N_law_draw : List Str := ["_law_pot_here", "_law_size", "_law_digit"]
theorem sc_law_draw : FnScope N_law_draw ["_law_pot_here", "_law_size"] (defScope s_law_draw) := ⟨rfl, rfl, rfl, by decide +kernel, rfl, by decide +kernel, by decide +kernel⟩
theorem bd_law_draw : BindOk "_law_draw" "_law_draw" s_law_draw ["_law_pot_here", "_law_size"] := fun _ _ _ _ _ _ us hl => match us, hl with | [_, _], _ => rfl
abbrev N_law_pick : List Str := ["_law_pot_here", "_law_some"]
theorem sc_law_pick : FnScope N_law_pick ["_law_pot_here", "_law_some"] (defScope s_law_pick) := ⟨rfl, rfl, rfl, by decide +kernel, rfl, by decide +kernel, by decide +kernel⟩
theorem bd_law_pick : BindOk "_law_pick" "_law_pick" s_law_pick ["_law_pot_here", "_law_some"] := fun _ _ _ _ _ _ us hl => match us, hl with | [_, _], _ => rfl
abbrev N_law_named : List Str := ["_law_pot_here", "_law_size", "_law_taken", "_law_k", "_law_letters", "_law_found", "_law_label", "_law_spare", "_law_turn", "_law_near"]
theorem sc_law_named : FnScope N_law_named ["_law_pot_here", "_law_size", "_law_taken"] (defScope s_law_named) := ⟨rfl, rfl, rfl, by decide +kernel, rfl, by decide +kernel, by decide +kernel⟩
theorem bd_law_named : BindOk "_law_named" "_law_named" s_law_named ["_law_pot_here", "_law_size", "_law_taken"] := fun _ _ _ _ _ _ us hl => match us, hl with | [_, _, _], _ => rfl
abbrev N_law_met : List Str := ["_law_call", "_law_told", "e"]
theorem sc_law_met : FnScope N_law_met ["_law_call"] (defScope s_law_met) := ⟨rfl, rfl, rfl, by decide +kernel, rfl, by decide +kernel, by decide +kernel⟩
theorem bd_law_met : BindOk "_law_met" "_law_met" s_law_met ["_law_call"] := fun _ _ _ _ _ _ us hl => match us, hl with | [_], _ => rfl
abbrev N_law_odd_name : List Str := ["_law_pot_here", "_law_word", "_law_found", "_law_turn"]
theorem sc_law_odd_name : FnScope N_law_odd_name ["_law_pot_here"] (defScope s_law_odd_name) := ⟨rfl, rfl, rfl, by decide +kernel, rfl, by decide +kernel, by decide +kernel⟩
theorem bd_law_odd_name : BindOk "_law_odd_name" "_law_odd_name" s_law_odd_name ["_law_pot_here"] := fun _ _ _ _ _ _ us hl => match us, hl with | [_], _ => rfl
abbrev N_law_odd_amount : List Str := ["_law_pot_here", "_law_found"]
theorem sc_law_odd_amount : FnScope N_law_odd_amount ["_law_pot_here"] (defScope s_law_odd_amount) := ⟨rfl, rfl, rfl, by decide +kernel, rfl, by decide +kernel, by decide +kernel⟩
theorem bd_law_odd_amount : BindOk "_law_odd_amount" "_law_odd_amount" s_law_odd_amount ["_law_pot_here"] := fun _ _ _ _ _ _ us hl => match us, hl with | [_], _ => rfl
abbrev N_law_words : List Str := ["_law_pot_here", "_law_spots", "_law_found", "_law_turn", "_law_word"]
theorem sc_law_words : FnScope N_law_words ["_law_pot_here", "_law_spots"] (defScope s_law_words) := ⟨rfl, rfl, rfl, by decide +kernel, rfl, by decide +kernel, by decide +kernel⟩
theorem bd_law_words : BindOk "_law_words" "_law_words" s_law_words ["_law_pot_here", "_law_spots"] := fun _ _ _ _ _ _ us hl => match us, hl with | [_, _], _ => rfl
abbrev N_law_is_named : List Str := ["_law_some", "_law_sign"]
theorem sc_law_is_named : FnScope N_law_is_named ["_law_some"] (defScope s_law_is_named) := ⟨rfl, rfl, rfl, by decide +kernel, rfl, by decide +kernel, by decide +kernel⟩
theorem bd_law_is_named : BindOk "_law_is_named" "_law_is_named" s_law_is_named ["_law_some"] := fun _ _ _ _ _ _ us hl => match us, hl with | [_], _ => rfl
abbrev N_law_due : List Str := ["_law_words_here", "_law_word"]
theorem sc_law_due : FnScope N_law_due ["_law_words_here"] (defScope s_law_due) := ⟨rfl, rfl, rfl, by decide +kernel, rfl, by decide +kernel, by decide +kernel⟩
theorem bd_law_due : BindOk "_law_due" "_law_due" s_law_due ["_law_words_here"] := fun _ _ _ _ _ _ us hl => match us, hl with | [_], _ => rfl
abbrev N_law_move_right : List Str := ["_law_words_here", "_law_told"]
theorem sc_law_move_right : FnScope N_law_move_right ["_law_words_here"] (defScope s_law_move_right) := ⟨rfl, rfl, rfl, by decide +kernel, rfl, by decide +kernel, by decide +kernel⟩
theorem bd_law_move_right : BindOk "_law_move_right" "_law_move_right" s_law_move_right ["_law_words_here"] := fun _ _ _ _ _ _ us hl => match us, hl with | [_], _ => rfl
abbrev N_law_single_right : List Str := ["_law_words_here", "_law_odd", "_law_told"]
theorem sc_law_single_right : FnScope N_law_single_right ["_law_words_here", "_law_odd"] (defScope s_law_single_right) := ⟨rfl, rfl, rfl, by decide +kernel, rfl, by decide +kernel, by decide +kernel⟩
theorem bd_law_single_right : BindOk "_law_single_right" "_law_single_right" s_law_single_right ["_law_words_here", "_law_odd"] := fun _ _ _ _ _ _ us hl => match us, hl with | [_, _], _ => rfl
abbrev N_law_broken : List Str := ["_law_pot_here", "_law_spots", "_law_chain", "_law_at", "_law_way", "_law_turn"]
theorem sc_law_broken : FnScope N_law_broken ["_law_pot_here"] (defScope s_law_broken) := ⟨rfl, rfl, rfl, by decide +kernel, rfl, by decide +kernel, by decide +kernel⟩
theorem bd_law_broken : BindOk "_law_broken" "_law_broken" s_law_broken ["_law_pot_here"] := fun _ _ _ _ _ _ us hl => match us, hl with | [_], _ => rfl
abbrev N_law_gift_right : List Str := ["_law_pot_here", "_law_odd", "_law_due_here", "_law_short", "_law_bare", "_law_chain", "_law_at"]
theorem sc_law_gift_right : FnScope N_law_gift_right ["_law_pot_here", "_law_odd"] (defScope s_law_gift_right) := ⟨rfl, rfl, rfl, by decide +kernel, rfl, by decide +kernel, by decide +kernel⟩
theorem bd_law_gift_right : BindOk "_law_gift_right" "_law_gift_right" s_law_gift_right ["_law_pot_here", "_law_odd"] := fun _ _ _ _ _ _ us hl => match us, hl with | [_, _], _ => rfl
abbrev N_law_right : List Str := ["_law_pot_here", "_law_spots", "_law_turn", "_law_words_here", "_law_odd"]
theorem sc_law_right : FnScope N_law_right ["_law_pot_here"] (defScope s_law_right) := ⟨rfl, rfl, rfl, by decide +kernel, rfl, by decide +kernel, by decide +kernel⟩
theorem bd_law_right : BindOk "_law_right" "_law_right" s_law_right ["_law_pot_here"] := fun _ _ _ _ _ _ us hl => match us, hl with | [_], _ => rfl
abbrev N_law : List Str := ["_law_script", "_law_k"]
theorem sc_law : FnScope N_law ["_law_script"] (defScope s_law) := ⟨rfl, rfl, rfl, by decide +kernel, rfl, by decide +kernel, by decide +kernel⟩
structure Ad where
  LoadError : Addr
  c_law_move_right : Addr
  t_law_move_right : Addr
  c_law_single_right : Addr
  t_law_single_right : Addr
  c_law_gift_right : Addr
  t_law_gift_right : Addr
  Ratio : Addr
  Move : Addr
  Gift : Addr
  InvalidName : Addr
  InvalidNumber : Addr
  InvalidMoves : Addr
structure Txt (K : PySem.W.Frag) (mg : Str → Option Value) (a : Ad) : Prop where
  o_Ratio : OwnC K mg "Ratio" a.Ratio
  n_Ratio_top : NoAttr K a.Ratio "_top"
  n_Ratio_bottom : NoAttr K a.Ratio "_bottom"
  o_Move : OwnC K mg "Move" a.Move
  n_Move_names : NoAttr K a.Move "_names"
  o_Gift : OwnC K mg "Gift" a.Gift
  n_Gift_amount : NoAttr K a.Gift "_amount"
  n_Gift_moves : NoAttr K a.Gift "_moves"
  d_is_integer : GF K mg "is_integer" s_is_integer
  d_is_count : GF K mg "is_count" s_is_count
  d_is_name : GF K mg "is_name" s_is_name
  e_InvalidNumber : GX K mg "InvalidNumber" a.InvalidNumber "InvalidNumber.__init__" s_InvalidNumber_init
  t_InvalidNumber : PySem.W.typeIn K (.ref a.InvalidNumber) = some (.type "type")
  n_InvalidNumber_value : PySem.W.findIn K (.ref a.InvalidNumber) "value" = some none
  e_InvalidName : GX K mg "InvalidName" a.InvalidName "InvalidName.__init__" s_InvalidName_init
  t_InvalidName : PySem.W.typeIn K (.ref a.InvalidName) = some (.type "type")
  n_InvalidName_value : PySem.W.findIn K (.ref a.InvalidName) "value" = some none
  e_InvalidMoves : GX K mg "InvalidMoves" a.InvalidMoves "InvalidMoves.__init__" s_InvalidMoves_init
  t_InvalidMoves : PySem.W.typeIn K (.ref a.InvalidMoves) = some (.type "type")
  n_InvalidMoves_position : PySem.W.findIn K (.ref a.InvalidMoves) "position" = some none
  d_Ratio_init : GI K a.Ratio "Ratio.__init__" s_Ratio_init [.int 1]
  d_Ratio_of : GS K a.Ratio "of" "Ratio.of" s_Ratio_of
  d_Ratio_top : GP K a.Ratio "top" "Ratio.top" s_Ratio_top
  d_Ratio_bottom : GP K a.Ratio "bottom" "Ratio.bottom" s_Ratio_bottom
  d_Ratio_over : GM K a.Ratio "over" "Ratio.over" s_Ratio_over
  d_Ratio_repr : GM K a.Ratio "__repr__" "Ratio.__repr__" s_Ratio_repr
  d_is_amount : GF K mg "is_amount" s_is_amount
  d_Move_init : GI K a.Move "Move.__init__" s_Move_init []
  d_Move_task : GP K a.Move "task" "Move.task" s_Move_task
  d_Move_start : GP K a.Move "start" "Move.start" s_Move_start
  d_Move_goal : GP K a.Move "goal" "Move.goal" s_Move_goal
  d_Move_repr : GM K a.Move "__repr__" "Move.__repr__" s_Move_repr
  d_Gift_init : GI K a.Gift "Gift.__init__" s_Gift_init []
  d_Gift_single : GS K a.Gift "single" "Gift.single" s_Gift_single
  d_break_of : GF K mg "break_of" s_break_of
  d_check_gift_amount : GF K mg "check_gift_amount" s_check_gift_amount
  d_law_pot : GF K mg "_law_pot" s_law_pot
  d_law_draw : GF K mg "_law_draw" s_law_draw
  d_law_pick : GF K mg "_law_pick" s_law_pick
  d_law_named : GF K mg "_law_named" s_law_named
  d_law_met : GF K mg "_law_met" s_law_met
  d_law_odd_name : GF K mg "_law_odd_name" s_law_odd_name
  d_law_odd_amount : GF K mg "_law_odd_amount" s_law_odd_amount
  d_law_words : GF K mg "_law_words" s_law_words
  d_law_is_named : GF K mg "_law_is_named" s_law_is_named
  d_law_due : GF K mg "_law_due" s_law_due
  d_law_broken : GF K mg "_law_broken" s_law_broken
  d_law_right : GF K mg "_law_right" s_law_right
  d_law : GF K mg "law" s_law
  b_abs : mg "abs" = none
  b_len : mg "len" = none
  b_divmod : mg "divmod" = none
  b_max : mg "max" = none
  b_min : mg "min" = none
  b_all : mg "all" = none
  b_int : mg "int" = none
  b_str : mg "str" = none
  b_bool : mg "bool" = none
  b_isinstance : mg "isinstance" = none
  b_range : mg "range" = none
  b_repr : mg "repr" = none
  b_enumerate : mg "enumerate" = none
  g_gcd : mg "gcd" = some (.builtin "math.gcd")
  s_Ratio_str : PySem.W.subIn K (.ref a.Ratio) (.type "str") = some false
  l_LoadError : mg "LoadError" = some (.ref a.LoadError)
  dc_law_move_right : GFC K mg "_law_move_right" s_law_move_right a.c_law_move_right
  dc_law_single_right : GFC K mg "_law_single_right" s_law_single_right a.c_law_single_right
  dc_law_gift_right : GFC K mg "_law_gift_right" s_law_gift_right a.c_law_gift_right
  h_11 : PySem.W.exmOne K (.ref a.InvalidName) (.ref a.InvalidName) = some true
  i_1 : PySem.W.kitOne K (.ref a.InvalidName) (.ref a.LoadError) = some true
  j_1 : PySem.W.kitOne K (.ref a.InvalidName) (.type "ValueError") = some true
  h_21 : PySem.W.exmOne K (.ref a.InvalidNumber) (.ref a.InvalidName) = some false
  h_22 : PySem.W.exmOne K (.ref a.InvalidNumber) (.ref a.InvalidNumber) = some true
  i_2 : PySem.W.kitOne K (.ref a.InvalidNumber) (.ref a.LoadError) = some true
  j_2 : PySem.W.kitOne K (.ref a.InvalidNumber) (.type "ValueError") = some true
  h_31 : PySem.W.exmOne K (.ref a.InvalidMoves) (.ref a.InvalidName) = some false
  h_32 : PySem.W.exmOne K (.ref a.InvalidMoves) (.ref a.InvalidNumber) = some false
  h_33 : PySem.W.exmOne K (.ref a.InvalidMoves) (.ref a.InvalidMoves) = some true
  i_3 : PySem.W.kitOne K (.ref a.InvalidMoves) (.ref a.LoadError) = some true
  j_3 : PySem.W.kitOne K (.ref a.InvalidMoves) (.type "ValueError") = some true
  b_ValueError : mg "ValueError" = none
  t_21 : a.t_law_single_right ≠ a.t_law_move_right
  t_31 : a.t_law_gift_right ≠ a.t_law_move_right
  t_32 : a.t_law_gift_right ≠ a.t_law_single_right
  k_bool_Ratio : PySem.W.kitOne K (.type "bool") (.ref a.Ratio) = some false
  k_NoneType_Ratio : PySem.W.kitOne K (.type "NoneType") (.ref a.Ratio) = some false
  k_str_Ratio : PySem.W.kitOne K (.type "str") (.ref a.Ratio) = some false
  k_tuple_Ratio : PySem.W.kitOne K (.type "tuple") (.ref a.Ratio) = some false
  k_list_Ratio : PySem.W.kitOne K (.type "list") (.ref a.Ratio) = some false
  k_dict_Ratio : PySem.W.kitOne K (.type "dict") (.ref a.Ratio) = some false
  k_int_Move : PySem.W.kitOne K (.type "int") (.ref a.Move) = some false
  k_bool_Move : PySem.W.kitOne K (.type "bool") (.ref a.Move) = some false
  k_NoneType_Move : PySem.W.kitOne K (.type "NoneType") (.ref a.Move) = some false
  k_str_Move : PySem.W.kitOne K (.type "str") (.ref a.Move) = some false
  k_tuple_Move : PySem.W.kitOne K (.type "tuple") (.ref a.Move) = some false
  k_list_Move : PySem.W.kitOne K (.type "list") (.ref a.Move) = some false
  z_Move_Ratio : PySem.W.kitOne K (.ref a.Move) (.ref a.Ratio) = some false
  z_Ratio_Move : PySem.W.kitOne K (.ref a.Ratio) (.ref a.Move) = some false
end Lw
namespace Lw
open PySem PySem.Spec PyProof.Rows L2 Ly
local macro_rules | `(tactic| walk_at "rd") => `(tactic| first
  | ((with_reducible refine' i_var ?hv ?_); (case hv => exact rfl))
  | with_reducible refine i_c ?_
  | with_reducible refine i_op ?_
  | with_reducible refine i_cons ?_
  | with_reducible refine i_nil ?_
  | with_reducible refine i_cb ?_
  | with_reducible refine i_call ?_
  | with_reducible refine i_I0 ?_
  | with_reducible refine i_add_i ?_
  | with_reducible refine i_sub_i ?_
  | with_reducible refine i_md_i (by first | decide | assumption) ?_
  | ((with_reducible refine' i_md_i ?c ?_); rotate_left)
  | ((with_reducible refine' i_mul_i ?c ?_); rotate_left)
  | with_reducible refine i_fd_i (by decide) ?_
  | ((with_reducible refine' i_fd_i ?c ?_); rotate_left)
  | with_reducible refine i_int ?_
  | with_reducible refine i_abs ?_
  | with_reducible refine i_max2 ?_
  | with_reducible refine i_min2 ?_
  | with_reducible refine i_gcd ?_
  | with_reducible refine i_seq ?_
  | with_reducible refine i_if ?_
  | with_reducible refine i_asg ?_
  | with_reducible refine i_ret ?_
  | with_reducible refine i_drop ?_
  | with_reducible refine i_next ?_
  | with_reducible refine i_un ?_
  | with_reducible refine i_U ?_
  | ((with_reducible refine i_gname ?_); dsimp only [List.set])
  | with_reducible refine i_test ?_
  | with_reducible refine i_not ?_
  | with_reducible refine i_or ?_
  | with_reducible refine i_and ?_
  | with_reducible refine i_tb ?_
  | with_reducible refine i_andV ?_
  | with_reducible refine i_orV ?_
  | with_reducible refine i_notV ?_
  | with_reducible refine i_ifx ?_
  | with_reducible refine i_ext ?_
  | with_reducible refine i_exf ?_
  | with_reducible refine i_exn ?_
  | with_reducible refine i_itt ?_
  | with_reducible refine i_itf ?_
  | with_reducible refine i_gsub ?_
  | with_reducible refine i_nt ?_
  | with_reducible refine i_tup ?_
  | with_reducible refine i_lst ?_
  | with_reducible refine i_nf ?_
  | with_reducible refine i_isint ?_
  | ((with_reducible refine' i_top ?r ?_); (case r => walk_at "hp"))
  | ((with_reducible refine' i_bot ?r ?_); (case r => walk_at "hp"))
  | with_reducible refine i_fld ?_
  | with_reducible refine i_sfld ?_
  | with_reducible refine i_pp ?_
  | with_reducible refine i_meth ?_
  | with_reducible refine i_smeth ?_
  | with_reducible refine i_make ?_
  | with_reducible refine i_sl ?_
  | with_reducible refine i_noPart ?_
  | with_reducible refine i_part ?_
  | with_reducible refine i_smethK ?_
  | with_reducible refine i_sk1 ?_
  | with_reducible refine i_makeK ?_
  | with_reducible refine i_methK ?_
  | with_reducible refine i_mk11 ?_
  | ((with_reducible refine' i_rmk ?r ?h1 ?h2 ?_); (case r => walk_at "hp"); (case h1 => decide +kernel); (case h2 => decide +kernel))
  | with_reducible refine i_tpar ?_
  | ((with_reducible refine i_rpar ?_); dsimp only [List.set])
  | with_reducible refine i_eq_s rfl ?_
  | with_reducible refine i_ne_s rfl ?_
  | ((with_reducible refine' i_rtop ?r ?c ?n ?_); (case r => walk_at "hp"); (case c => assumption); (case n => assumption))
  | ((with_reducible refine' i_rbot ?r ?c ?n ?_); (case r => walk_at "hp"); (case c => assumption); (case n => assumption))
  | ((with_reducible refine' i_rpp ?r ?_); (case r => walk_at "hp"))
  | ((with_reducible refine' i_rmeth ?r ?h1 ?h2 ?_); (case r => walk_at "hp"); (case h1 => decide +kernel); (case h2 => decide +kernel))
  | ((with_reducible refine' i_ix_l ?hp ?ha ?_); (case hp => walk_at "hp"); (case ha => exact rfl))
  | ((with_reducible refine' i_len_l ?hp ?_); (case hp => walk_at "hp"))
  | ((with_reducible refine' i_ix_f0 ?hp ?_); (case hp => walk_at "hp"))
  | ((with_reducible refine' i_ix_f1 ?hp ?_); (case hp => walk_at "hp"))
  | ((with_reducible refine' i_ix_t ?hp ?ha ?_); (case hp => walk_at "hp"); (case ha => exact rfl)))
local macro_rules | `(tactic| walk_at "hp") => `(tactic| first
  | assumption
  | exact upd_same
  | exact SqL.of (by assumption)
  | (refine' Dr.tup (by assumption) ?hq; (case hq => walk_at "hp"))
  | (refine' FrL.same (by assumption) ?hq; (case hq => walk_at "hp"))
  | (refine' FracAt.same (by assumption) ?hq; (case hq => walk_at "hp"))
  | (refine' FracAt.nl (by assumption) ?hq; (case hq => walk_at "hp"))
  | (refine' RatAt.nl (by assumption) ?hq; (case hq => walk_at "hp"))
  | (refine' Num.nl (by assumption) ?hq; (case hq => walk_at "hp"))
  | (refine' FracAt.pk (by assumption) ?hq; (case hq => walk_at "hp"))
  | (refine' RatAt.pk (by assumption) ?hq; (case hq => walk_at "hp"))
  | (refine' Num.pk (by assumption) ?hq; (case hq => walk_at "hp"))
  | (refine' Dr.keep (by assumption) _ _ (by assumption) ?hq; (case hq => walk_at "hp"))
  | (refine' (show Same _ _ by assumption) _ _ ?hq; (case hq => walk_at "hp"))
  | (refine' RatAt.same (by assumption) ?hq; (case hq => walk_at "hp"))
  | (refine' Num.same (by assumption) ?hq; (case hq => walk_at "hp")))
local macro_rules | `(tactic| walk_at "sm") => `(tactic| first
  | assumption
  | exact Same.refl _
  | (refine' Same.kl (by assumption) (by assumption) ?aa; (case aa => walk_at "sm"))
  | (refine' Same.trans ?aa (by assumption); (case aa => walk_at "sm")))
local macro_rules | `(tactic| walk_at "dr") => `(tactic| first
  | assumption
  | (refine' Dr.same ?aa (by assumption); (case aa => walk_at "dr"))
  | (refine' Dr.trans ?aa (by assumption); (case aa => walk_at "dr")))
variable {W : Wd} {a : Ad}
theorem k_law_draw (T : Txt W.K W.mg a) : Cl W 1 "_law_draw" spDraw := by
  refine cl_of' T.d_law_draw sc_law_draw bd_law_draw (fun vs H Q E ⟨p, n, h, _⟩ => by rw [h]; rfl) fun f cdv A outer s H vs Q E hr h => ?_
  obtain ⟨p, n, rfl, hpot, hn, hz, q⟩ := h
  obtain ⟨a0, b0, hp, ok⟩ := _root_.id hpot
  refine ⟨_, (pss_cons (ps_if (pt_cmpR op_gt (pe_ix (r := rIx W.K) ix_U (pv 0) pe_int (fun _ _ => rfl)) pe_int (nomark _)) (pss_cons (ps_asg (pe_callB call_divmodU (by rfl) T.b_divmod (by decide +kernel) (pa_cons (pe_ix (r := rIx W.K) ix_U (pv 0) pe_int (fun _ _ => rfl)) (pa_cons (pv 1) pa_nil))) (pg_tupK (K := W.K) (n := 2) rfl rfl (pgs_cons (pg_sub (pv 0) pe_int set_list) (pgs_cons (pg_name (i := 2) sc_law_draw.nd rfl (Or.inl rfl)) pgs_nil)))) (pss_one (ps_ret (pv 2)))) pss_nil) (pss_cons (ps_asg (pe_op op_modU (pe_callTy call_int1U (by rfl) T.b_int (by decide +kernel) (pa_cons (pe_op op_addU (pe_op op_mulU (pe_ix (r := rIx W.K) ix_U (pv 0) pe_int (fun _ _ => rfl)) pe_int) pe_int) pa_nil)) pe_int) (pg_sub (pv 0) pe_int set_list)) (pss_one (ps_ret (pe_op op_modU (pe_callTy call_int1U (by rfl) T.b_int (by decide +kernel) (pa_cons (pe_op op_fdivU (pe_op op_modU (pe_callTy call_int1U (by rfl) T.b_int (by decide +kernel) (pa_cons (pe_op op_mulU (pe_ix (r := rIx W.K) ix_U (pv 0) pe_int (fun _ _ => rfl)) (pe_ix (r := rIx W.K) ix_U (pv 0) pe_int (fun _ _ => rfl))) pa_nil)) pe_int) pe_int) pa_nil)) (pv 1)))))), ?_⟩
  refine i_start (σ' := [some (V.ref p), some (V.int n), none]) rfl ?_
  repeat walk_at "rd"
  refine i_dec (fun h0 => ?_) (fun h0 => ?_)
  · repeat walk_at "rd"
    refine i_dm (cdivp hn hz) fun t H1 nt ht s1 => ?_
    refine ⟨t, _, rfl, SqT.of ht, rfl, _, _, rfl, ?_⟩
    repeat walk_at "rd"
    refine ⟨p, _, _, 0, rfl, rfl, s1 _ _ hp, rfl, _, _, rfl, ?_⟩
    repeat walk_at "rd"
    refine ⟨rfl, ?_⟩
    repeat walk_at "rd"
    refine q _ _ (Int.emod_nonneg _ (by omega)) (Int.emod_lt_of_pos _ hn) ⟨fun c o hc e => ?_, hpot, a0 / n, b0, upd_same, Int.ediv_nonneg ok.ha (by omega), ok.hb, ok.hc⟩
    rw [upd_ne hc]
    exact s1 _ _ e
  · repeat walk_at "rd"
    refine ⟨p, _, _, 1, rfl, rfl, hp, rfl, ?_⟩
    have hm := Int.emod_lt_of_pos (b0 * 48271 + 12161) (show (0 : Int) < 2147483587 by decide)
    have hm0 := Int.emod_nonneg (b0 * 48271 + 12161) (show (2147483587 : Int) ≠ 0 by decide)
    have ok2 : PotOk a0 ((b0 * 48271 + 12161) % 2147483587) := ⟨ok.ha, hm0, by omega⟩
    have hp2 : upd H p (HO.lst ([V.int a0, V.int b0].set 1 (V.int ((b0 * 48271 + 12161) % 2147483587)))) p = some (HO.lst [V.int a0, V.int ((b0 * 48271 + 12161) % 2147483587)]) := upd_same
    repeat walk_at "rd"
    · refine q _ _ (Int.emod_nonneg _ (by omega)) (Int.emod_lt_of_pos _ hn) ⟨fun c o hc e => ?_, hpot, _, _, hp2, ok2⟩
      rw [upd_ne hc]
      exact e
    · exact wide_mul (a := 31) (b := 16) (by have := ok.hb; have := ok.hc; omega) (by decide) (by decide) (by decide) (by decide)
    · exact wide_mul (a := 31) (b := 31) (by have := ok2.hb; have := ok2.hc; omega) (by have := ok2.hb; have := ok2.hc; omega) (by decide) (by decide) (by decide)
    · exact wide_div (b := 4) (by decide) (by decide) (by decide) (by decide)
end Lw
namespace Dt
open PySem PySem.Spec PyProof.Rows L2 Ly
theorem atI_in {ds : List D} {d : Int} (h0 : 0 ≤ d) (h1 : d < ds.length) : ∃ x, x ∈ ds ∧ atI ds d = some x := by
  have hl : d.toNat < ds.length := by omega
  refine ⟨ds[d.toNat], List.getElem_mem hl, ?_⟩
  have z := atI_nat (xs := ds) (j := d.toNat) (v := ds[d.toNat]) (by simp [hl])
  rw [show ((d.toNat : Nat) : Int) = d by omega] at z
  exact z
theorem sz_len {n : Nat} (h : n ≤ 4000) : Sz 4000 (n : Int) := sz_lit (by omega)
end Dt
namespace Lw
open PySem PySem.Spec PyProof.Rows L2 Ly Dt
local macro_rules | `(tactic| walk_at "wk") => `(tactic| first
  | ((with_reducible refine' w_var ?hv ?hn ?_); (case hv => exact rfl); (case hn => (intro z; cases z)))
  | with_reducible refine w_int ?_
  | with_reducible refine w_str ?_
  | with_reducible refine w_op ?_
  | with_reducible refine wa_cons ?_
  | with_reducible refine wa_nil ?_
  | with_reducible refine w_reprL ?_
  | with_reducible refine w_isi2 ?_
  | with_reducible refine w_cb ?_
  | with_reducible refine w_call ?_
  | ((with_reducible refine' ws_retV ?hv ?_); (case hv => exact rfl))
  | with_reducible refine ws_seq ?_
  | with_reducible refine ws_asg ?_
  | with_reducible refine ws_ret ?_
  | with_reducible refine ws_if ?_
  | with_reducible refine ws_next ?_
  | ((with_reducible refine' ws_append ?hv ?hz ?_); (case hv => exact rfl); rotate_left)
  | with_reducible refine ws_drop ?_
  | with_reducible refine ws_retN ?_
  | ((with_reducible refine wg_d ?_); dsimp only [List.set])
  | ((with_reducible refine wg_raw ?_); dsimp only [List.set])
  | ((with_reducible refine wg_E ?_))
  | ((with_reducible refine' we_tup ?hl ?_); (case hl => exact rfl))
  | with_reducible refine wes_cons ?_
  | with_reducible refine wes_nil ?_
  | ((with_reducible refine we_name ?_); dsimp only [List.set])
  | with_reducible refine out_d ?_
  | with_reducible refine out_new ?_
  | with_reducible refine ex_bl ?_
  | with_reducible refine ite_t ?_
  | ((with_reducible refine ex_fzd ?_); dsimp only [List.set, List.nil_append, List.cons_append])
  | ((with_reducible refine ex_fzn ?_); dsimp only [List.set, List.nil_append, List.cons_append])
  | with_reducible refine ite_nt ?_
  | with_reducible refine ite_nf ?_
  | with_reducible refine ite_f ?_
  | with_reducible refine wt_tb ?_
  | with_reducible refine wt_test ?_
  | with_reducible refine wt_and ?_
  | with_reducible refine wt_or ?_
  | with_reducible refine wt_not ?_
  | with_reducible refine w_andV ?_
  | with_reducible refine w_orV ?_
  | with_reducible refine w_notV ?_
  | with_reducible refine w_if ?_
  | with_reducible refine w_bl ?_
  | with_reducible refine w_non ?_
  | with_reducible refine w_ty ?_
  | with_reducible refine w_ref ?_
  | with_reducible refine w_un ?_
  | ((with_reducible refine w_tup ?_); skip)
  | ((with_reducible refine w_lst ?_); skip)
  | ((with_reducible refine' Exists.intro _ (And.intro ?hf (And.intro ?hl ?_))); (case hf => exact rfl); (case hl => exact Nat.le_of_ble_eq_true rfl))
  | with_reducible refine w_fld ?_
  | ((with_reducible refine' fld_of ?ho ?c ?n ?l ?_); (case ho => exact rfl); (case c => assumption); (case n => with_reducible assumption); (case l => exact rfl))
  | with_reducible refine wp_top ?_
  | with_reducible refine wp_bot ?_
  | with_reducible refine w_prop ?_
  | with_reducible refine w_meth ?_
  | with_reducible refine w_smeth ?_
  | with_reducible refine wop_addI ?_
  | with_reducible refine wop_subI ?_
  | ((with_reducible refine' wop_mulI ?c ?_); rotate_left)
  | ((with_reducible refine' wop_fdI ?c ?_); rotate_left)
  | with_reducible refine wop_mdI (by first | decide | assumption) ?_
  | ((with_reducible refine' wop_mdI ?c ?_); rotate_left)
  | ((with_reducible refine' wop_I0 ?e ?_); (case e => exact rfl))
  | ((with_reducible refine' wop_ixT ?e ?_); (case e => exact rfl))
  | ((with_reducible refine' wcb_lenL ?e ?_); (case e => exact rfl))
  | with_reducible refine wcb_lenT ?_
  | ((with_reducible refine' wop_fdX ?c ?_); rotate_left)
  | ((with_reducible refine' wun_U ?e ?_); (case e => exact rfl))
  | with_reducible refine wop_eqI ?_
  | with_reducible refine wop_neI ?_
  | with_reducible refine wop_eqS ?_
  | with_reducible refine wop_neS ?_
  | with_reducible refine wop_isN ?_
  | with_reducible refine wop_notN ?_
  | ((with_reducible refine' wop_inS ?e ?_); (case e => exact rfl))
  | ((with_reducible refine' wop_niS ?e ?_); (case e => exact rfl))
  | with_reducible refine wop_inST ?_
  | with_reducible refine wcb_gcd ?_
  | with_reducible refine wcb_abs ?_
  | with_reducible refine wcb_max2 ?_
  | with_reducible refine wcb_min2 ?_
  | with_reducible refine wcb_int ?_
  | ((with_reducible refine' wcb_isi (b := true) ?ho ?hb ?_); (case ho => exact rfl); (case hb => (dsimp only [tyN]; decide +kernel)))
  | ((with_reducible refine' wcb_isi (b := false) ?ho ?hb ?_); (case ho => exact rfl); (case hb => (dsimp only [tyN]; decide +kernel)))
  | ((with_reducible refine' wcb_listOf ?e ?_); (case e => exact rfl))
  | with_reducible refine wcb_listOfT ?_
  | ((with_reducible refine' wcb_tupOf ?e ?_); (case e => exact rfl))
  | with_reducible refine w_chain ?_
  | with_reducible refine wcb_strS ?_
  | ((with_reducible refine' wcb_lenD ?e ?_); (case e => exact rfl))
  | ((with_reducible refine' wcb_listD ?e ?_); (case e => exact rfl))
  | with_reducible refine w_dnewK ?_
  | with_reducible refine w_dget ?_
  | with_reducible refine w_din ?_
  | with_reducible refine w_dni ?_
  | with_reducible refine w_lenSet ?_
  | with_reducible refine w_listVals ?_
  | with_reducible refine w_chain ?_
  | ((with_reducible refine' wt_yes ?_)))
variable {W : Wd} {a : Ad}
/-- pick: any of the items -/
def bPick (rs : List Rv) (k : Rv → Prop) : Prop := ∃ ds, rs = [.pot, .d (.lst ds)] ∧ ds ≠ [] ∧ ds.length ≤ 4000 ∧ ∀ d, d ∈ ds → k (.d d)
theorem k_law_pick (T : Txt W.K W.mg a) : Cl W 2 "_law_pick" (spW true bPick) := by
  refine cl_W T.d_law_pick sc_law_pick bd_law_pick (fun rs k ⟨_, h, _⟩ => by rw [h]; rfl) (body_W (n := 2) (m := 0) rfl (fun rs k ⟨_, h, _⟩ => by rw [h]; rfl) fun f cdv A outer s H E hr => ⟨_, (pss_one (ps_ret (pe_ix (r := rIx W.K) ix_U (pv 1) (pe_cl (k_law_draw T) hr (by decide) rfl (pa_cons (pv 0) (pa_cons (pe_callB (r := Ly.rLen W.K) call_lenU (by rfl) T.b_len (by decide +kernel) (pa_cons (pv 1) pa_nil)) pa_nil))) (fun _ _ => rfl)))), fun π rs kr hp hB => ?_⟩)
  obtain ⟨ds, rfl, hn, hl, q⟩ := hB
  dsimp only [uns, List.replicate, List.cons_append, List.nil_append]
  repeat walk_at "wk"
  have hp := List.length_pos_iff.mpr hn
  refine wcb_draw (by omega) (sz_len hl) fun d d0 d1 => ?_
  obtain ⟨x, hx, e⟩ := atI_in d0 d1
  exact wop_ixL rfl e (out_d (q x hx))
end Lw
namespace Dt
open PySem PySem.Spec PyProof.Rows L2 Ly
def bRatio (C : Addr) (rs : List Rv) (k : D → Prop) : Prop := ∃ t b : Int, rs = [.d (.int t), .d (.int b)] ∧ b ≠ 0 ∧ Sz 8900 t ∧ Sz 8900 b ∧ k (ratQ C (Rat.divInt t b))
theorem divInt_one (u : Int) : Rat.divInt u 1 = (u : Rat) := by
  apply Rat.ext
  · rw [Rat.num_divInt]
    simp
  · rw [Rat.den_divInt]
    simp
section
variable {π : Po} {δ : List Rv} {k : Rv → Prop} {t : TA} {C : Addr}
/-- Ratio(u, v) -/
theorem w_ratio2 (q : WpA π t δ fun as => ∃ u v : Int, as = [.d (.int u), .d (.int v)] ∧ v ≠ 0 ∧ Sz 8900 u ∧ Sz 8900 v ∧ k (.d (ratQ C (Rat.divInt u v)))) : Wp π (tMake C (spI C false (bRatio C)) [] E0 t) δ k := by
  refine w_make (drs := []) trivial ?_
  intro X H σ Q o e h
  refine q X H σ Q o e fun vs as H1 k1 a w => h vs as H1 k1 a ?_
  obtain ⟨u, v, rfl, hv, z1, z2, kk⟩ := w
  exact ⟨_, rfl, rfl, rfl, u, v, rfl, hv, z1, z2, kk⟩
theorem w_ratio1 (q : WpA π t δ fun as => ∃ u : Int, as = [.d (.int u)] ∧ Sz 8900 u ∧ k (.d (ratQ C (u : Rat)))) : Wp π (tMake C (spI C false (bRatio C)) [.int 1] E0 t) δ k := by
  refine w_make (drs := [.d (.int 1)]) ⟨rfl, trivial⟩ ?_
  intro X H σ Q o e h
  refine q X H σ Q o e fun vs as H1 k1 a w => h vs as H1 k1 a ?_
  obtain ⟨u, rfl, z1, kk⟩ := w
  exact ⟨_, rfl, rfl, rfl, u, 1, rfl, by decide, z1, sz_mono (n := 1) (by unfold Sz; decide) (by decide), by rw [divInt_one]; exact kk⟩
/-- Ratio.of(x) -/
def bOf (C : Addr) (rs : List Rv) (k : Rv → Prop) : Prop := ∃ d q, rs = [.d d] ∧ NumQ C d q ∧ Sz 4000 q.num ∧ k (.d (ratQ C q))
theorem wcb_of {E : XK} {d : D} {q : Rat} (n : NumQ C d q) (z : Sz 4000 q.num) (h : k (.d (ratQ C q))) : WCb π (fun vs H Q => spW false (bOf C) vs H Q E) [.d d] k := wcb_W0 (rs := [.d d]) rfl rfl ⟨d, q, rfl, n, z, (fun z => by cases z), h⟩
end
end Dt
namespace Lw
open PySem PySem.Spec PyProof.Rows L2 Ly Dt
local macro_rules | `(tactic| walk_at "wk") => `(tactic| first
  | ((with_reducible refine' w_var ?hv ?hn ?_); (case hv => exact rfl); (case hn => (intro z; cases z)))
  | with_reducible refine w_int ?_
  | with_reducible refine w_str ?_
  | with_reducible refine w_op ?_
  | with_reducible refine wa_cons ?_
  | with_reducible refine wa_nil ?_
  | with_reducible refine w_reprL ?_
  | with_reducible refine w_isi2 ?_
  | with_reducible refine w_cb ?_
  | with_reducible refine w_call ?_
  | ((with_reducible refine' ws_retV ?hv ?_); (case hv => exact rfl))
  | with_reducible refine ws_seq ?_
  | with_reducible refine ws_asg ?_
  | with_reducible refine ws_ret ?_
  | with_reducible refine ws_if ?_
  | with_reducible refine ws_next ?_
  | ((with_reducible refine' ws_append ?hv ?hz ?_); (case hv => exact rfl); rotate_left)
  | with_reducible refine ws_drop ?_
  | with_reducible refine ws_retN ?_
  | ((with_reducible refine wg_d ?_); dsimp only [List.set])
  | ((with_reducible refine wg_raw ?_); dsimp only [List.set])
  | ((with_reducible refine wg_E ?_))
  | ((with_reducible refine' we_tup ?hl ?_); (case hl => exact rfl))
  | with_reducible refine wes_cons ?_
  | with_reducible refine wes_nil ?_
  | ((with_reducible refine we_name ?_); dsimp only [List.set])
  | with_reducible refine out_d ?_
  | with_reducible refine out_new ?_
  | with_reducible refine ex_bl ?_
  | with_reducible refine ite_t ?_
  | ((with_reducible refine ex_fzd ?_); dsimp only [List.set, List.nil_append, List.cons_append])
  | ((with_reducible refine ex_fzn ?_); dsimp only [List.set, List.nil_append, List.cons_append])
  | with_reducible refine ite_nt ?_
  | with_reducible refine ite_nf ?_
  | with_reducible refine ite_f ?_
  | with_reducible refine wt_tb ?_
  | with_reducible refine wt_test ?_
  | with_reducible refine wt_and ?_
  | with_reducible refine wt_or ?_
  | with_reducible refine wt_not ?_
  | with_reducible refine w_andV ?_
  | with_reducible refine w_orV ?_
  | with_reducible refine w_notV ?_
  | with_reducible refine w_if ?_
  | with_reducible refine w_bl ?_
  | with_reducible refine w_non ?_
  | with_reducible refine w_ty ?_
  | with_reducible refine w_ref ?_
  | with_reducible refine w_un ?_
  | ((with_reducible refine w_tup ?_); skip)
  | ((with_reducible refine w_lst ?_); skip)
  | ((with_reducible refine' Exists.intro _ (And.intro ?hf (And.intro ?hl ?_))); (case hf => exact rfl); (case hl => exact Nat.le_of_ble_eq_true rfl))
  | with_reducible refine w_fld ?_
  | ((with_reducible refine' fld_of ?ho ?c ?n ?l ?_); (case ho => exact rfl); (case c => assumption); (case n => with_reducible assumption); (case l => exact rfl))
  | with_reducible refine wp_top ?_
  | with_reducible refine wp_bot ?_
  | with_reducible refine w_prop ?_
  | with_reducible refine w_meth ?_
  | with_reducible refine w_smeth ?_
  | with_reducible refine wop_addI ?_
  | with_reducible refine wop_subI ?_
  | ((with_reducible refine' wop_mulI ?c ?_); rotate_left)
  | ((with_reducible refine' wop_fdI ?c ?_); rotate_left)
  | with_reducible refine wop_mdI (by first | decide | assumption) ?_
  | ((with_reducible refine' wop_mdI ?c ?_); rotate_left)
  | ((with_reducible refine' wop_I0 ?e ?_); (case e => exact rfl))
  | ((with_reducible refine' wop_ixT ?e ?_); (case e => exact rfl))
  | ((with_reducible refine' wcb_lenL ?e ?_); (case e => exact rfl))
  | with_reducible refine wcb_lenT ?_
  | ((with_reducible refine' wop_fdX ?c ?_); rotate_left)
  | ((with_reducible refine' wun_U ?e ?_); (case e => exact rfl))
  | with_reducible refine wop_eqI ?_
  | with_reducible refine wop_neI ?_
  | with_reducible refine wop_eqS ?_
  | with_reducible refine wop_neS ?_
  | with_reducible refine wop_isN ?_
  | with_reducible refine wop_notN ?_
  | ((with_reducible refine' wop_inS ?e ?_); (case e => exact rfl))
  | ((with_reducible refine' wop_niS ?e ?_); (case e => exact rfl))
  | with_reducible refine wop_inST ?_
  | with_reducible refine wcb_gcd ?_
  | with_reducible refine wcb_abs ?_
  | with_reducible refine wcb_max2 ?_
  | with_reducible refine wcb_min2 ?_
  | with_reducible refine wcb_int ?_
  | ((with_reducible refine' wcb_isi (b := true) ?ho ?hb ?_); (case ho => exact rfl); (case hb => (dsimp only [tyN]; decide +kernel)))
  | ((with_reducible refine' wcb_isi (b := false) ?ho ?hb ?_); (case ho => exact rfl); (case hb => (dsimp only [tyN]; decide +kernel)))
  | ((with_reducible refine' wcb_listOf ?e ?_); (case e => exact rfl))
  | with_reducible refine wcb_listOfT ?_
  | ((with_reducible refine' wcb_tupOf ?e ?_); (case e => exact rfl))
  | with_reducible refine w_chain ?_
  | with_reducible refine wcb_strS ?_
  | ((with_reducible refine' wcb_lenD ?e ?_); (case e => exact rfl))
  | ((with_reducible refine' wcb_listD ?e ?_); (case e => exact rfl))
  | with_reducible refine w_dnewK ?_
  | with_reducible refine w_dget ?_
  | with_reducible refine w_din ?_
  | with_reducible refine w_dni ?_
  | with_reducible refine w_lenSet ?_
  | with_reducible refine w_listVals ?_
  | with_reducible refine w_chain ?_
  | ((with_reducible refine' wt_yes ?_)))
variable {W : Wd} {a : Ad}
theorem k_init (T : Txt W.K W.mg a) : ∃ (f : Addr) (fd : FuncData), FunD W.K "__init__" "Ratio.__init__" (defArgs s_Ratio_init) (defBody s_Ratio_init) (defScope s_Ratio_init) [.int 1] [] f fd ∧ Mk W.K a.Ratio f ∧ FnOk W.P W.w W.K W.mg W.base CX0 2 f fd ["self", "top", "bottom"] (spI a.Ratio false (bRatio a.Ratio)) := by
  obtain ⟨f, fd, F, M⟩ := T.d_Ratio_init.ex
  refine ⟨f, fd, F, M, F.ok sc_Ratio_init (len_I (n := 2) fun rs k ⟨_, _, h, _⟩ => by rw [h]; rfl) fun cdv A outer s H vs Q E hr h => ⟨_, PSs.nox (pss_cons (ps_if (PW.pt (pw_or (pt_not (pt_val (pe_callB (r := rIsi W.K) call_isi (by rfl) T.b_isinstance (by decide +kernel) (pa_cons (pv 1) (pa_cons (pe_bltn (by rfl) T.b_int (by decide +kernel) (v := .ty "int") rfl) pa_nil))))) (pw_or1 (pt_val (pe_callB (r := rIsi W.K) call_isi (by rfl) T.b_isinstance (by decide +kernel) (pa_cons (pv 1) (pa_cons (pe_bltn (by rfl) T.b_bool (by decide +kernel) (v := .ty "bool") rfl) pa_nil))))))) (pss_one ps_never) pss_nil) (pss_cons (ps_if (PW.pt (pw_or (pt_not (pt_val (pe_callB (r := rIsi W.K) call_isi (by rfl) T.b_isinstance (by decide +kernel) (pa_cons (pv 2) (pa_cons (pe_bltn (by rfl) T.b_int (by decide +kernel) (v := .ty "int") rfl) pa_nil))))) (pw_or (pt_val (pe_callB (r := rIsi W.K) call_isi (by rfl) T.b_isinstance (by decide +kernel) (pa_cons (pv 2) (pa_cons (pe_bltn (by rfl) T.b_bool (by decide +kernel) (v := .ty "bool") rfl) pa_nil)))) (pw_or1 (pt_cmpR (r := rEqU W.K) (op_eqU hr.units) (pv 2) pe_int (nomark _)))))) (pss_one ps_never) pss_nil) (pss_cons (ps_set (i := 3) sc_Ratio_init.nd rfl (Or.inl rfl) (pe_ifExp (pt_cmpR op_gt (pv 2) pe_int (nomark _)) (pe_callBfun cr_gcd (by rfl) T.g_gcd (pa_cons (pv 1) (pa_cons (pv 2) pa_nil))) (pe_un un_neg (pe_callBfun cr_gcd (by rfl) T.g_gcd (pa_cons (pv 1) (pa_cons (pv 2) pa_nil)))))) (pss_cons (ps_fldK (K := W.K) rfl (pv 0) (pe_op op_fdivX (pv 1) (pv 3)) rfl) (pss_one (ps_fldK (K := W.K) rfl (pv 0) (pe_op op_fdivX (pv 2) (pv 3)) rfl)))))), run_init (n := 2) (m := 1) rfl (fun rs k ⟨_, _, h, _⟩ => by rw [h]; rfl) (fun π rs k x hp hB => ?_) h⟩⟩
  obtain ⟨t, b, rfl, hb, z1, z2, q⟩ := hB
  dsimp only [uns, List.replicate, List.cons_append, List.nil_append]
  have hg := G_pos (t := t) hb
  have e1 := nu_of (t := t) hb
  have e2 := de_of (t := t) hb
  rw [nu_q hb] at e1
  rw [de_q hb] at e2
  have zg : Sz 8900 (G t b) := sz_le z2 (g_le t b hb)
  repeat walk_at "wk"
  refine ite_d (fun z => (hb z).elim) fun _ => ?_
  repeat walk_at "wk"
  refine ite_d (fun h0 => ?_) fun h0 => ?_
  · rw [if_pos h0] at e1 e2
    repeat walk_at "wk"
    refine ws_fld rfl T.o_Ratio.cls T.n_Ratio_top rfl (by show 0 < 900; decide) ?_
    repeat walk_at "wk"
    · refine ws_fld rfl T.o_Ratio.cls T.n_Ratio_bottom rfl (by show 1 < 900; decide) ?_
      repeat walk_at "wk"
      · refine ⟨_, rfl, ?_⟩
        rw [show ((Int.gcd t b : Nat) : Int) = G t b from rfl, e1, e2]
        exact q
      · exact cdivx (show G t b ≠ 0 by omega) zg (by decide) (by decide)
    · exact cdivx (show G t b ≠ 0 by omega) zg (by decide) (by decide)
  · rw [if_neg h0] at e1 e2
    repeat walk_at "wk"
    refine ws_fld rfl T.o_Ratio.cls T.n_Ratio_top rfl (by show 0 < 900; decide) ?_
    repeat walk_at "wk"
    · refine ws_fld rfl T.o_Ratio.cls T.n_Ratio_bottom rfl (by show 1 < 900; decide) ?_
      repeat walk_at "wk"
      · refine ⟨_, rfl, ?_⟩
        rw [show ((Int.gcd t b : Nat) : Int) = G t b from rfl, e1, e2]
        exact q
      · exact cdivx (show -G t b ≠ 0 by omega) (sz_neg zg) (by decide) (by decide)
    · exact cdivx (show -G t b ≠ 0 by omega) (sz_neg zg) (by decide) (by decide)
theorem m_Ratio2 (T : Txt W.K W.mg a) : Mak W 2 "Ratio" a.Ratio (spI a.Ratio false (bRatio a.Ratio)) [] := by
  obtain ⟨f, fd, F, M, ok⟩ := k_init T
  obtain ⟨ds, d, b⟩ := F.binds1 (ps := ["self", "top", "bottom"]) 3 1 (by decide) (by decide) (fun T kV doc pm an cdv ct us its hl hi => match us, hl, its, hi with | [_, _, _], _, [_], _ => ⟨_, rfl, rfl⟩)
  exact ⟨f, fd, _, ds, M, ok, T.o_Ratio.mg, b, d⟩
theorem m_Ratio1 (T : Txt W.K W.mg a) : Mak W 2 "Ratio" a.Ratio (spI a.Ratio false (bRatio a.Ratio)) [.int 1] := by
  obtain ⟨f, fd, F, M, ok⟩ := k_init T
  obtain ⟨ds, d, b⟩ := F.binds1 (ps := ["self", "top", "bottom"]) 2 0 (by decide) (by decide) (fun T kV doc pm an cdv ct us its hl hi => match us, hl, its, hi with | [_, _], _, [_], _ => ⟨_, rfl, rfl⟩)
  exact ⟨f, fd, _, ds, M, ok, T.o_Ratio.mg, b, d⟩
theorem sm_of (T : Txt W.K W.mg a) : Sm W 4 a.Ratio "of" (spW false (bOf a.Ratio)) := by
  refine sm_W T.d_Ratio_of sc_Ratio_of bd_Ratio_of (fun rs k ⟨_, _, h, _⟩ => by rw [h]; rfl) (body_W (n := 1) (m := 0) rfl (fun rs k ⟨_, _, h, _⟩ => by rw [h]; rfl) fun f cdv A outer s H E hr => ⟨_, (pss_one (ps_ret (pe_ifExp (pt_val (pe_callB (r := rIsi W.K) call_isi (by rfl) T.b_isinstance (by decide +kernel) (pa_cons (pv 0) (pa_cons (pe_gn (v := .ref a.Ratio) (by rfl) T.o_Ratio.mg rfl) pa_nil)))) (pv 0) (pe_mak (m_Ratio1 T) hr (by decide) rfl (pa_cons (pv 0) pa_nil))))), fun π rs kr hp hB => ?_⟩)
  obtain ⟨d, q, rfl, n, z, h⟩ := hB
  dsimp only [uns, List.replicate, List.cons_append, List.nil_append]
  cases n with
  | int i =>
    repeat walk_at "wk"
    refine wcb_isiC rfl T.o_Ratio.kI ?_
    repeat walk_at "wk"
    refine w_ratio1 ?_
    repeat walk_at "wk"
    exact ⟨i, rfl, sz_mono z (by decide), out_d h⟩
  | rat q =>
    repeat walk_at "wk"
    refine wcb_isiO T.o_Ratio ?_
    repeat walk_at "wk"
    exact h
theorem pp_top (T : Txt W.K W.mg a) : Pp W 1 a.Ratio "top" (spW false (bTop a.Ratio)) := by
  refine pp_W T.d_Ratio_top sc_Ratio_top bd_Ratio_top (fun rs k ⟨_, h, _⟩ => by rw [h]; rfl) (body_W (n := 1) (m := 0) rfl (fun rs k ⟨_, h, _⟩ => by rw [h]; rfl) fun f cdv A outer s H E hr => ⟨_, (pss_one (ps_ret (pe_fldK (K := W.K) rfl (pv 0) rfl))), fun π rs kr hp hB => ?_⟩)
  obtain ⟨q, rfl, h⟩ := hB
  dsimp only [uns, List.replicate, List.cons_append, List.nil_append]
  repeat walk_at "wk"
  exact ⟨a.Ratio, _, _, rfl, T.o_Ratio.cls, T.n_Ratio_top, rfl, out_d h⟩
end Lw
namespace Lw
open PySem PySem.Spec PyProof.Rows L2 Ly Dt
local macro_rules | `(tactic| walk_at "wk") => `(tactic| first
  | ((with_reducible refine' w_var ?hv ?hn ?_); (case hv => exact rfl); (case hn => (intro z; cases z)))
  | with_reducible refine w_int ?_
  | with_reducible refine w_str ?_
  | with_reducible refine w_op ?_
  | with_reducible refine wa_cons ?_
  | with_reducible refine wa_nil ?_
  | with_reducible refine w_reprL ?_
  | with_reducible refine w_isi2 ?_
  | with_reducible refine w_cb ?_
  | with_reducible refine w_call ?_
  | ((with_reducible refine' ws_retV ?hv ?_); (case hv => exact rfl))
  | with_reducible refine ws_seq ?_
  | with_reducible refine ws_asg ?_
  | with_reducible refine ws_ret ?_
  | with_reducible refine ws_if ?_
  | with_reducible refine ws_next ?_
  | ((with_reducible refine' ws_append ?hv ?hz ?_); (case hv => exact rfl); rotate_left)
  | with_reducible refine ws_drop ?_
  | with_reducible refine ws_retN ?_
  | ((with_reducible refine wg_d ?_); dsimp only [List.set])
  | ((with_reducible refine wg_raw ?_); dsimp only [List.set])
  | ((with_reducible refine wg_E ?_))
  | ((with_reducible refine' we_tup ?hl ?_); (case hl => exact rfl))
  | with_reducible refine wes_cons ?_
  | with_reducible refine wes_nil ?_
  | ((with_reducible refine we_name ?_); dsimp only [List.set])
  | with_reducible refine out_d ?_
  | with_reducible refine out_new ?_
  | with_reducible refine ex_bl ?_
  | with_reducible refine ite_t ?_
  | ((with_reducible refine ex_fzd ?_); dsimp only [List.set, List.nil_append, List.cons_append])
  | ((with_reducible refine ex_fzn ?_); dsimp only [List.set, List.nil_append, List.cons_append])
  | with_reducible refine ite_nt ?_
  | with_reducible refine ite_nf ?_
  | with_reducible refine ite_f ?_
  | with_reducible refine wt_tb ?_
  | with_reducible refine wt_test ?_
  | with_reducible refine wt_and ?_
  | with_reducible refine wt_or ?_
  | with_reducible refine wt_not ?_
  | with_reducible refine w_andV ?_
  | with_reducible refine w_orV ?_
  | with_reducible refine w_notV ?_
  | with_reducible refine w_if ?_
  | with_reducible refine w_bl ?_
  | with_reducible refine w_non ?_
  | with_reducible refine w_ty ?_
  | with_reducible refine w_ref ?_
  | with_reducible refine w_un ?_
  | ((with_reducible refine w_tup ?_); skip)
  | ((with_reducible refine w_lst ?_); skip)
  | ((with_reducible refine' Exists.intro _ (And.intro ?hf (And.intro ?hl ?_))); (case hf => exact rfl); (case hl => exact Nat.le_of_ble_eq_true rfl))
  | with_reducible refine w_fld ?_
  | ((with_reducible refine' fld_of ?ho ?c ?n ?l ?_); (case ho => exact rfl); (case c => assumption); (case n => with_reducible assumption); (case l => exact rfl))
  | with_reducible refine wp_top ?_
  | with_reducible refine wp_bot ?_
  | with_reducible refine w_prop ?_
  | with_reducible refine w_meth ?_
  | with_reducible refine w_smeth ?_
  | with_reducible refine wop_addI ?_
  | with_reducible refine wop_subI ?_
  | ((with_reducible refine' wop_mulI ?c ?_); rotate_left)
  | ((with_reducible refine' wop_fdI ?c ?_); rotate_left)
  | with_reducible refine wop_mdI (by first | decide | assumption) ?_
  | ((with_reducible refine' wop_mdI ?c ?_); rotate_left)
  | ((with_reducible refine' wop_I0 ?e ?_); (case e => exact rfl))
  | ((with_reducible refine' wop_ixT ?e ?_); (case e => exact rfl))
  | ((with_reducible refine' wcb_lenL ?e ?_); (case e => exact rfl))
  | with_reducible refine wcb_lenT ?_
  | ((with_reducible refine' wop_fdX ?c ?_); rotate_left)
  | ((with_reducible refine' wun_U ?e ?_); (case e => exact rfl))
  | with_reducible refine wop_eqI ?_
  | with_reducible refine wop_neI ?_
  | with_reducible refine wop_eqS ?_
  | with_reducible refine wop_neS ?_
  | with_reducible refine wop_isN ?_
  | with_reducible refine wop_notN ?_
  | ((with_reducible refine' wop_inS ?e ?_); (case e => exact rfl))
  | ((with_reducible refine' wop_niS ?e ?_); (case e => exact rfl))
  | with_reducible refine wop_inST ?_
  | with_reducible refine wcb_gcd ?_
  | with_reducible refine wcb_abs ?_
  | with_reducible refine wcb_max2 ?_
  | with_reducible refine wcb_min2 ?_
  | with_reducible refine wcb_int ?_
  | ((with_reducible refine' wcb_isi (b := true) ?ho ?hb ?_); (case ho => exact rfl); (case hb => (dsimp only [tyN]; decide +kernel)))
  | ((with_reducible refine' wcb_isi (b := false) ?ho ?hb ?_); (case ho => exact rfl); (case hb => (dsimp only [tyN]; decide +kernel)))
  | ((with_reducible refine' wcb_listOf ?e ?_); (case e => exact rfl))
  | with_reducible refine wcb_listOfT ?_
  | ((with_reducible refine' wcb_tupOf ?e ?_); (case e => exact rfl))
  | with_reducible refine w_chain ?_
  | with_reducible refine wcb_strS ?_
  | ((with_reducible refine' wcb_lenD ?e ?_); (case e => exact rfl))
  | ((with_reducible refine' wcb_listD ?e ?_); (case e => exact rfl))
  | with_reducible refine w_dnewK ?_
  | with_reducible refine w_dget ?_
  | with_reducible refine w_din ?_
  | with_reducible refine w_dni ?_
  | with_reducible refine w_lenSet ?_
  | with_reducible refine w_listVals ?_
  | with_reducible refine w_chain ?_
  | ((with_reducible refine' wt_yes ?_)))
variable {W : Wd} {a : Ad}
def bKind (f : D → Bool) (rs : List Rv) (k : Rv → Prop) : Prop := ∃ x, rs = [.d x] ∧ isObj x = false ∧ k (.d (.bl (f x)))
theorem wcb_kind {π : Po} {k : Rv → Prop} {E : XK} {f : D → Bool} {x : D} (ho : isObj x = false) (q : k (.d (.bl (f x)))) : WCb π (fun vs H Q => spW false (bKind f) vs H Q E) [.d x] k := wcb_W0 (rs := [.d x]) rfl rfl ⟨x, rfl, ho, fun z => (by cases z), q⟩
theorem k_is_integer (T : Txt W.K W.mg a) : Cl W 1 "is_integer" (spW false (bKind isInt)) := by
  refine cl_W T.d_is_integer sc_is_integer bd_is_integer (fun rs k ⟨_, h, _⟩ => by rw [h]; rfl) (body_W (n := 1) (m := 0) rfl (fun rs k ⟨_, h, _⟩ => by rw [h]; rfl) fun f cdv A outer s H E hr => ⟨_, (pss_one (ps_ret (pe_and (pe_callB (r := rIsi W.K) call_isi (by rfl) T.b_isinstance (by decide +kernel) (pa_cons (pv 0) (pa_cons (pe_bltn (by rfl) T.b_int (by decide +kernel) (v := .ty "int") rfl) pa_nil))) (pe_one (pe_not (pe_callB (r := rIsi W.K) call_isi (by rfl) T.b_isinstance (by decide +kernel) (pa_cons (pv 0) (pa_cons (pe_bltn (by rfl) T.b_bool (by decide +kernel) (v := .ty "bool") rfl) pa_nil)))))))), fun π rs kr hp hB => ?_⟩)
  obtain ⟨x, rfl, ho, q⟩ := hB
  dsimp only [uns, List.replicate, List.cons_append, List.nil_append]
  cases x <;> first
    | (cases ho; done)
    | ((repeat walk_at "wk"); exact q)
def isCnt : D → Bool
  | .int i => decide (0 ≤ i)
  | _ => false
theorem k_is_count (T : Txt W.K W.mg a) : Cl W 2 "is_count" (spW false (bKind isCnt)) := by
  refine cl_W T.d_is_count sc_is_count bd_is_count (fun rs k ⟨_, h, _⟩ => by rw [h]; rfl) (body_W (n := 1) (m := 0) rfl (fun rs k ⟨_, h, _⟩ => by rw [h]; rfl) fun f cdv A outer s H E hr => ⟨_, (pss_one (ps_ret (pe_and (pe_cl (k_is_integer T) hr (by decide) rfl (pa_cons (pv 0) pa_nil)) (pe_one (pe_cmpR op_ge (pv 0) pe_int (nomark _)))))), fun π rs kr hp hB => ?_⟩)
  obtain ⟨x, rfl, ho, q⟩ := hB
  dsimp only [uns, List.replicate, List.cons_append, List.nil_append]
  repeat walk_at "wk"
  refine wcb_kind ho ?_
  cases x <;> first
    | (cases ho; done)
    | (dsimp only [Dt.isInt]; (repeat walk_at "wk"); exact q)
theorem k_is_amount (T : Txt W.K W.mg a) : Cl W 3 "is_amount" (spW false fun rs k => ∃ d q, rs = [.d d] ∧ NumQ a.Ratio d q ∧ k (.d (.bl (decide (0 ≤ q.num))))) := by
  refine cl_W T.d_is_amount sc_is_amount bd_is_amount (fun rs k ⟨_, _, h, _⟩ => by rw [h]; rfl) (body_W (n := 1) (m := 0) rfl (fun rs k ⟨_, _, h, _⟩ => by rw [h]; rfl) fun f cdv A outer s H E hr => ⟨_, (pss_cons (ps_if (pt_val (pe_callB (r := rIsi W.K) call_isi (by rfl) T.b_isinstance (by decide +kernel) (pa_cons (pv 0) (pa_cons (pe_gn (v := .ref a.Ratio) (by rfl) T.o_Ratio.mg rfl) pa_nil)))) (pss_one (ps_ret (pe_cmpR op_ge (pe_fldK (K := W.K) rfl (pv 0) rfl) pe_int (nomark _)))) pss_nil) (pss_one (ps_ret (pe_cl (k_is_count T) hr (by decide) rfl (pa_cons (pv 0) pa_nil))))), fun π rs kr hp hB => ?_⟩)
  obtain ⟨d, p, rfl, n, q⟩ := hB
  dsimp only [uns, List.replicate, List.cons_append, List.nil_append]
  have cR := T.o_Ratio.cls
  have nT := T.n_Ratio_top
  cases n with
  | int i =>
    repeat walk_at "wk"
    refine wcb_isiC rfl T.o_Ratio.kI ?_
    repeat walk_at "wk"
    refine wcb_kind rfl ?_
    dsimp only [isCnt]
    repeat walk_at "wk"
    exact q
  | rat p =>
    repeat walk_at "wk"
    refine wcb_isiO T.o_Ratio ?_
    repeat walk_at "wk"
    exact q
end Lw
namespace Lw
open PySem PySem.Spec PyProof.Rows L2 Ly
local macro_rules | `(tactic| walk_at "rd") => `(tactic| first
  | ((with_reducible refine' i_var ?hv ?_); (case hv => exact rfl))
  | with_reducible refine i_c ?_
  | with_reducible refine i_op ?_
  | with_reducible refine i_cons ?_
  | with_reducible refine i_nil ?_
  | with_reducible refine i_cb ?_
  | with_reducible refine i_call ?_
  | with_reducible refine i_I0 ?_
  | with_reducible refine i_add_i ?_
  | with_reducible refine i_sub_i ?_
  | with_reducible refine i_md_i (by first | decide | assumption) ?_
  | ((with_reducible refine' i_md_i ?c ?_); rotate_left)
  | ((with_reducible refine' i_mul_i ?c ?_); rotate_left)
  | with_reducible refine i_fd_i (by decide) ?_
  | ((with_reducible refine' i_fd_i ?c ?_); rotate_left)
  | with_reducible refine i_int ?_
  | with_reducible refine i_abs ?_
  | with_reducible refine i_max2 ?_
  | with_reducible refine i_min2 ?_
  | with_reducible refine i_gcd ?_
  | with_reducible refine i_seq ?_
  | with_reducible refine i_if ?_
  | with_reducible refine i_asg ?_
  | with_reducible refine i_ret ?_
  | with_reducible refine i_drop ?_
  | with_reducible refine i_next ?_
  | with_reducible refine i_un ?_
  | with_reducible refine i_U ?_
  | ((with_reducible refine i_gname ?_); dsimp only [List.set])
  | with_reducible refine i_test ?_
  | with_reducible refine i_not ?_
  | with_reducible refine i_or ?_
  | with_reducible refine i_and ?_
  | with_reducible refine i_tb ?_
  | with_reducible refine i_andV ?_
  | with_reducible refine i_orV ?_
  | with_reducible refine i_notV ?_
  | with_reducible refine i_ifx ?_
  | with_reducible refine i_ext ?_
  | with_reducible refine i_exf ?_
  | with_reducible refine i_exn ?_
  | with_reducible refine i_itt ?_
  | with_reducible refine i_itf ?_
  | with_reducible refine i_gsub ?_
  | with_reducible refine i_nt ?_
  | with_reducible refine i_tup ?_
  | with_reducible refine i_lst ?_
  | with_reducible refine i_nf ?_
  | with_reducible refine i_isint ?_
  | ((with_reducible refine' i_top ?r ?_); (case r => walk_at "hp"))
  | ((with_reducible refine' i_bot ?r ?_); (case r => walk_at "hp"))
  | with_reducible refine i_fld ?_
  | with_reducible refine i_sfld ?_
  | with_reducible refine i_pp ?_
  | with_reducible refine i_meth ?_
  | with_reducible refine i_smeth ?_
  | with_reducible refine i_make ?_
  | with_reducible refine i_sl ?_
  | with_reducible refine i_noPart ?_
  | with_reducible refine i_part ?_
  | with_reducible refine i_smethK ?_
  | with_reducible refine i_sk1 ?_
  | with_reducible refine i_makeK ?_
  | with_reducible refine i_methK ?_
  | with_reducible refine i_mk11 ?_
  | ((with_reducible refine' i_rmk ?r ?h1 ?h2 ?_); (case r => walk_at "hp"); (case h1 => decide +kernel); (case h2 => decide +kernel))
  | with_reducible refine i_tpar ?_
  | ((with_reducible refine i_rpar ?_); dsimp only [List.set])
  | with_reducible refine i_eq_s rfl ?_
  | with_reducible refine i_ne_s rfl ?_
  | ((with_reducible refine' i_rtop ?r ?c ?n ?_); (case r => walk_at "hp"); (case c => assumption); (case n => assumption))
  | ((with_reducible refine' i_rbot ?r ?c ?n ?_); (case r => walk_at "hp"); (case c => assumption); (case n => assumption))
  | ((with_reducible refine' i_rpp ?r ?_); (case r => walk_at "hp"))
  | ((with_reducible refine' i_rmeth ?r ?h1 ?h2 ?_); (case r => walk_at "hp"); (case h1 => decide +kernel); (case h2 => decide +kernel))
  | ((with_reducible refine' i_ix_l ?hp ?ha ?_); (case hp => walk_at "hp"); (case ha => exact rfl))
  | ((with_reducible refine' i_len_l ?hp ?_); (case hp => walk_at "hp"))
  | ((with_reducible refine' i_ix_f0 ?hp ?_); (case hp => walk_at "hp"))
  | ((with_reducible refine' i_ix_f1 ?hp ?_); (case hp => walk_at "hp"))
  | ((with_reducible refine' i_ix_t ?hp ?ha ?_); (case hp => walk_at "hp"); (case ha => exact rfl)))
local macro_rules | `(tactic| walk_at "hp") => `(tactic| first
  | assumption
  | exact upd_same
  | exact SqL.of (by assumption)
  | (refine' Dr.tup (by assumption) ?hq; (case hq => walk_at "hp"))
  | (refine' FrL.same (by assumption) ?hq; (case hq => walk_at "hp"))
  | (refine' FracAt.same (by assumption) ?hq; (case hq => walk_at "hp"))
  | (refine' FracAt.nl (by assumption) ?hq; (case hq => walk_at "hp"))
  | (refine' RatAt.nl (by assumption) ?hq; (case hq => walk_at "hp"))
  | (refine' Num.nl (by assumption) ?hq; (case hq => walk_at "hp"))
  | (refine' FracAt.pk (by assumption) ?hq; (case hq => walk_at "hp"))
  | (refine' RatAt.pk (by assumption) ?hq; (case hq => walk_at "hp"))
  | (refine' Num.pk (by assumption) ?hq; (case hq => walk_at "hp"))
  | (refine' Dr.keep (by assumption) _ _ (by assumption) ?hq; (case hq => walk_at "hp"))
  | (refine' (show Same _ _ by assumption) _ _ ?hq; (case hq => walk_at "hp"))
  | (refine' RatAt.same (by assumption) ?hq; (case hq => walk_at "hp"))
  | (refine' Num.same (by assumption) ?hq; (case hq => walk_at "hp")))
local macro_rules | `(tactic| walk_at "sm") => `(tactic| first
  | assumption
  | exact Same.refl _
  | (refine' Same.kl (by assumption) (by assumption) ?aa; (case aa => walk_at "sm"))
  | (refine' Same.trans ?aa (by assumption); (case aa => walk_at "sm")))
local macro_rules | `(tactic| walk_at "dr") => `(tactic| first
  | assumption
  | (refine' Dr.same ?aa (by assumption); (case aa => walk_at "dr"))
  | (refine' Dr.trans ?aa (by assumption); (case aa => walk_at "dr")))
variable {W : Wd} {a : Ad}
theorem mx_InvalidName (T : Txt W.K W.mg a) : XMak W 1 "InvalidName" a.InvalidName 1 [] (spX1 a.InvalidName "value") := by
  refine xmak_of T.e_InvalidName sc_InvalidName_init xb_InvalidName (fun vs H Q E ⟨x, y, h, _⟩ => by rw [h]; rfl) fun f cdv A outer s H vs Q E hr h => ?_
  obtain ⟨x, y, rfl, hx, q⟩ := h
  refine ⟨_, pss_one (ps_xst (pv 0) (pv 1) rfl), ?_⟩
  refine i_start (σ' := [some (V.ref x), some y]) rfl ?_
  repeat walk_at "rd"
  exact ⟨y, rfl, .ref x, rfl, x, a.InvalidName, rfl, T.e_InvalidName.xk, T.n_InvalidName_value, .inl ⟨hx, q⟩⟩
theorem mx_InvalidNumber (T : Txt W.K W.mg a) : XMak W 1 "InvalidNumber" a.InvalidNumber 1 [] (spX1 a.InvalidNumber "value") := by
  refine xmak_of T.e_InvalidNumber sc_InvalidNumber_init xb_InvalidNumber (fun vs H Q E ⟨x, y, h, _⟩ => by rw [h]; rfl) fun f cdv A outer s H vs Q E hr h => ?_
  obtain ⟨x, y, rfl, hx, q⟩ := h
  refine ⟨_, pss_one (ps_xst (pv 0) (pv 1) rfl), ?_⟩
  refine i_start (σ' := [some (V.ref x), some y]) rfl ?_
  repeat walk_at "rd"
  exact ⟨y, rfl, .ref x, rfl, x, a.InvalidNumber, rfl, T.e_InvalidNumber.xk, T.n_InvalidNumber_value, .inl ⟨hx, q⟩⟩
theorem mx_InvalidMoves (T : Txt W.K W.mg a) : XMak W 1 "InvalidMoves" a.InvalidMoves 1 [] (spX1 a.InvalidMoves "position") := by
  refine xmak_of T.e_InvalidMoves sc_InvalidMoves_init xb_InvalidMoves (fun vs H Q E ⟨x, y, h, _⟩ => by rw [h]; rfl) fun f cdv A outer s H vs Q E hr h => ?_
  obtain ⟨x, y, rfl, hx, q⟩ := h
  refine ⟨_, pss_one (ps_xst (pv 0) (pv 1) rfl), ?_⟩
  refine i_start (σ' := [some (V.ref x), some y]) rfl ?_
  repeat walk_at "rd"
  exact ⟨y, rfl, .ref x, rfl, x, a.InvalidMoves, rfl, T.e_InvalidMoves.xk, T.n_InvalidMoves_position, .inl ⟨hx, q⟩⟩
end Lw
namespace Dt
open PySem PySem.Spec PyProof.Rows L2 Ly
def nmD : D → Bool
  | .str s => nmB s
  | _ => false
theorem wcb_isiB {π : Po} {K : PySem.W.Frag} {k : Rv → Prop} {C : Addr} {fs : List (Str × D)} {mg : Str → Option Value} {n : Str} {T : String} (c : OwnC K mg n C) (hm : PySem.W.kitMeta T = true) (hs : PySem.W.subIn K (.ref C) (.type T) = some false) (q : k (.d (.bl false))) : WCb π (rIsi K) [.d (.obj C fs), .raw (.ty T)] k := fun X H0 H xs Q o0 o k0 ra h => by
  match xs, ra with
  | [v, cc], ⟨ra, rc, _⟩ =>
    have rc : cc = .ty T := rc
    subst rc
    cases ra with
    | obj e e2 t =>
      have hk : PySem.W.kitOne K (.ref C) (.type T) = some false := by
        unfold PySem.W.kitOne
        rw [if_neg (by intro z; cases eq_of_beq z)]
        unfold PySem.W.kitCls
        simp only
        rw [if_pos hm, hs]
      exact ⟨_, .ty T, .ref C, .type T, false, rfl, .ty T, .base (.ins (of_cut e).2 c.cls c.cl (by with_unfolding_all rfl) (by with_unfolding_all rfl) c.mo), hk, h _ (.d (.bl false)) H o.kp (At.bl _) q⟩
theorem wcb_isiOO {π : Po} {K : PySem.W.Frag} {k : Rv → Prop} {C C' : Addr} {fs : List (Str × D)} {mg : Str → Option Value} {n : Str} {b : Bool} (c : OwnC K mg n C) (hk : PySem.W.kitOne K (.ref C) (.ref C') = some b) (q : k (.d (.bl b))) : WCb π (rIsi K) [.d (.obj C fs), .raw (.ref C')] k := fun X H0 H xs Q o0 o k0 ra h => by
  match xs, ra with
  | [v, cc], ⟨ra, rc, _⟩ =>
    have rc : cc = .ref C' := rc
    subst rc
    cases ra with
    | obj e e2 t => exact i_isiO (b := b) (.base (.ins (of_cut e).2 c.cls c.cl (by with_unfolding_all rfl) (by with_unfolding_all rfl) c.mo)) hk (h _ (.d (.bl b)) H o.kp (At.bl _) q)
/-- a move -/
def mv (C : Addr) (t s g : Str) : D := .obj C [("_names", .tup [.str t, .str s, .str g])]
/-- a value that may stand in the place of a name -/
def Nd (C : Addr) (x : D) : Prop := (isObj x = false ∨ ∃ fs, x = .obj C fs) ∧ ∀ s, x = .str s → s.length ≤ sizeLine
/-- the first that is no name, else the goal that is the start -/
def mvBad (t s g : D) : Option D := if nmD t = false then some t else if nmD s = false then some s else if nmD g = false then some g else match g, s with
  | .str x, .str y => if x = y then some g else none
  | _, _ => none
end Dt
namespace Lw
open PySem PySem.Spec PyProof.Rows L2 Ly Dt
local macro_rules | `(tactic| walk_at "wk") => `(tactic| first
  | ((with_reducible refine' w_var ?hv ?hn ?_); (case hv => exact rfl); (case hn => (intro z; cases z)))
  | with_reducible refine w_int ?_
  | with_reducible refine w_str ?_
  | with_reducible refine w_op ?_
  | with_reducible refine wa_cons ?_
  | with_reducible refine wa_nil ?_
  | with_reducible refine w_reprL ?_
  | with_reducible refine w_isi2 ?_
  | with_reducible refine w_cb ?_
  | with_reducible refine w_call ?_
  | ((with_reducible refine' ws_retV ?hv ?_); (case hv => exact rfl))
  | with_reducible refine ws_seq ?_
  | with_reducible refine ws_asg ?_
  | with_reducible refine ws_ret ?_
  | with_reducible refine ws_if ?_
  | with_reducible refine ws_next ?_
  | ((with_reducible refine' ws_append ?hv ?hz ?_); (case hv => exact rfl); rotate_left)
  | with_reducible refine ws_drop ?_
  | with_reducible refine ws_retN ?_
  | ((with_reducible refine wg_d ?_); dsimp only [List.set])
  | ((with_reducible refine wg_raw ?_); dsimp only [List.set])
  | ((with_reducible refine wg_E ?_))
  | ((with_reducible refine' we_tup ?hl ?_); (case hl => exact rfl))
  | with_reducible refine wes_cons ?_
  | with_reducible refine wes_nil ?_
  | ((with_reducible refine we_name ?_); dsimp only [List.set])
  | with_reducible refine out_d ?_
  | with_reducible refine out_new ?_
  | with_reducible refine ex_bl ?_
  | with_reducible refine ite_t ?_
  | ((with_reducible refine ex_fzd ?_); dsimp only [List.set, List.nil_append, List.cons_append])
  | ((with_reducible refine ex_fzn ?_); dsimp only [List.set, List.nil_append, List.cons_append])
  | with_reducible refine ite_nt ?_
  | with_reducible refine ite_nf ?_
  | with_reducible refine ite_f ?_
  | with_reducible refine wt_tb ?_
  | with_reducible refine wt_test ?_
  | with_reducible refine wt_and ?_
  | with_reducible refine wt_or ?_
  | with_reducible refine wt_not ?_
  | with_reducible refine w_andV ?_
  | with_reducible refine w_orV ?_
  | with_reducible refine w_notV ?_
  | with_reducible refine w_if ?_
  | with_reducible refine w_bl ?_
  | with_reducible refine w_non ?_
  | with_reducible refine w_ty ?_
  | with_reducible refine w_ref ?_
  | with_reducible refine w_un ?_
  | ((with_reducible refine w_tup ?_); skip)
  | ((with_reducible refine w_lst ?_); skip)
  | ((with_reducible refine' Exists.intro _ (And.intro ?hf (And.intro ?hl ?_))); (case hf => exact rfl); (case hl => exact Nat.le_of_ble_eq_true rfl))
  | with_reducible refine w_fld ?_
  | ((with_reducible refine' fld_of ?ho ?c ?n ?l ?_); (case ho => exact rfl); (case c => assumption); (case n => with_reducible assumption); (case l => exact rfl))
  | with_reducible refine wp_top ?_
  | with_reducible refine wp_bot ?_
  | with_reducible refine w_prop ?_
  | with_reducible refine w_meth ?_
  | with_reducible refine w_smeth ?_
  | with_reducible refine wop_addI ?_
  | with_reducible refine wop_subI ?_
  | ((with_reducible refine' wop_mulI ?c ?_); rotate_left)
  | ((with_reducible refine' wop_fdI ?c ?_); rotate_left)
  | with_reducible refine wop_mdI (by first | decide | assumption) ?_
  | ((with_reducible refine' wop_mdI ?c ?_); rotate_left)
  | ((with_reducible refine' wop_I0 ?e ?_); (case e => exact rfl))
  | ((with_reducible refine' wop_ixT ?e ?_); (case e => exact rfl))
  | ((with_reducible refine' wcb_lenL ?e ?_); (case e => exact rfl))
  | with_reducible refine wcb_lenT ?_
  | ((with_reducible refine' wop_fdX ?c ?_); rotate_left)
  | ((with_reducible refine' wun_U ?e ?_); (case e => exact rfl))
  | with_reducible refine wop_eqI ?_
  | with_reducible refine wop_neI ?_
  | with_reducible refine wop_eqS ?_
  | with_reducible refine wop_neS ?_
  | with_reducible refine wop_isN ?_
  | with_reducible refine wop_notN ?_
  | ((with_reducible refine' wop_inS ?e ?_); (case e => exact rfl))
  | ((with_reducible refine' wop_niS ?e ?_); (case e => exact rfl))
  | with_reducible refine wop_inST ?_
  | with_reducible refine wcb_gcd ?_
  | with_reducible refine wcb_abs ?_
  | with_reducible refine wcb_max2 ?_
  | with_reducible refine wcb_min2 ?_
  | with_reducible refine wcb_int ?_
  | ((with_reducible refine' wcb_isi (b := true) ?ho ?hb ?_); (case ho => exact rfl); (case hb => (dsimp only [tyN]; decide +kernel)))
  | ((with_reducible refine' wcb_isi (b := false) ?ho ?hb ?_); (case ho => exact rfl); (case hb => (dsimp only [tyN]; decide +kernel)))
  | ((with_reducible refine' wcb_listOf ?e ?_); (case e => exact rfl))
  | with_reducible refine wcb_listOfT ?_
  | ((with_reducible refine' wcb_tupOf ?e ?_); (case e => exact rfl))
  | with_reducible refine w_chain ?_
  | with_reducible refine wcb_strS ?_
  | ((with_reducible refine' wcb_lenD ?e ?_); (case e => exact rfl))
  | ((with_reducible refine' wcb_listD ?e ?_); (case e => exact rfl))
  | with_reducible refine w_dnewK ?_
  | with_reducible refine w_dget ?_
  | with_reducible refine w_din ?_
  | with_reducible refine w_dni ?_
  | with_reducible refine w_lenSet ?_
  | with_reducible refine w_listVals ?_
  | with_reducible refine w_chain ?_
  | ((with_reducible refine' wt_yes ?_)))
variable {W : Wd} {a : Ad}
theorem k_is_nameA (T : Txt W.K W.mg a) : Cl W 1 "is_name" (spW false fun rs k => ∃ x, rs = [.d x] ∧ Nd a.Ratio x ∧ k (.d (.bl (nmD x)))) := by
  refine cl_W T.d_is_name sc_is_name bd_is_name (fun rs k ⟨_, h, _⟩ => by rw [h]; rfl) (body_W (n := 1) (m := 0) rfl (fun rs k ⟨_, h, _⟩ => by rw [h]; rfl) fun f cdv A outer s H E hr => ⟨_, (pss_one (ps_ret (pe_and (pe_callB (r := rIsi W.K) call_isi (by rfl) T.b_isinstance (by decide +kernel) (pa_cons (pv 0) (pa_cons (pe_bltn (by rfl) T.b_str (by decide +kernel) (v := .ty "str") rfl) pa_nil))) (pe_and (pe_cmpR op_le (pe_callB (r := Ly.rLen W.K) call_lenU (by rfl) T.b_len (by decide +kernel) (pa_cons (pv 0) pa_nil)) pe_int (nomark _)) (pe_and (pe_bm0 PySem.F.plainAttrs_str PySem.F.slot_str_isascii PySem.F.type_str_isascii mt_isascii (pv 0)) (pe_and (pe_bm0 PySem.F.plainAttrs_str PySem.F.slot_str_isalpha PySem.F.type_str_isalpha mt_isalpha (pv 0)) (pe_one (pe_bm0 PySem.F.plainAttrs_str PySem.F.slot_str_islower PySem.F.type_str_islower mt_islower (pv 0))))))))), fun π rs kr hp hB => ?_⟩)
  obtain ⟨x, rfl, ⟨ho, hl⟩, q⟩ := hB
  dsimp only [uns, List.replicate, List.cons_append, List.nil_append]
  repeat walk_at "wk"
  rcases ho with ho | ⟨fs, rfl⟩
  · cases x with
    | str x =>
      have hl := hl x rfl
      have q : kr (.d (.bl (nmB x))) := q
      refine wcb_isi (b := true) rfl rfl ?_
      repeat walk_at "wk"
      refine wcb_lenS hl ?_
      repeat walk_at "wk"
      unfold nmB at q
      refine ite_d (fun h => ?_) fun h => ?_
      · refine w_name rfl (out_d ?_)
        rw [decide_eq_true (show x.length ≤ 8 by omega)] at q
        exact q
      · rw [decide_eq_false (show ¬ x.length ≤ 8 by omega)] at q
        exact out_d q
    | obj C fs => cases ho
    | dcT kd => cases ho
    | _ =>
      refine wcb_isi (b := false) rfl rfl ?_
      repeat walk_at "wk"
      exact q
  · refine wcb_isiB T.o_Ratio (by decide +kernel) T.s_Ratio_str ?_
    repeat walk_at "wk"
    exact q
/-- the constructor -/
def bMove (C : Addr) (rs : List Rv) (k : D → Prop) : Prop := ∃ t s g : Str, rs = [.d (.str t), .d (.str s), .d (.str g)] ∧ nmB t = true ∧ nmB s = true ∧ nmB g = true ∧ g ≠ s ∧ k (mv C t s g)
theorem nd_str {C : Addr} {x : Str} (h : nmB x = true) : Nd C (.str x) := ⟨.inl rfl, fun s e => by
  cases e
  unfold nmB at h
  rw [Bool.and_eq_true, decide_eq_true_eq] at h
  exact le_line (by omega)⟩
theorem b_Move (T : Txt W.K W.mg a) : BodyOk W 2 N_Move_init "Move.__init__" s_Move_init (spI a.Move false (bMove a.Move)) := by
  intro f cdv A outer s H vs Q E hr h
  refine ⟨_, (pss_cons (ps_for PassesOwn.never rfl (pi_tupK (K := W.K) rfl (pe_tup (pa_cons (pv 1) (pa_cons (pv 2) (pa_cons (pv 3) pa_nil))))) (pg_name (i := 4) sc_Move_init.nd rfl (Or.inl rfl)) (pss_one (ps_if (pt_not (pt_val (pe_cl (k_is_nameA T) hr (by decide) rfl (pa_cons (pv 4) pa_nil)))) (pss_one ps_never) pss_nil))) (pss_cons (ps_if (pt_cmpR (r := rEqU W.K) (op_eqU hr.units) (pv 3) (pv 2) (nomark _)) (pss_one ps_never) pss_nil) (pss_one (ps_fldK (K := W.K) rfl (pv 0) (pe_tup (pa_cons (pv 1) (pa_cons (pv 2) (pa_cons (pv 3) pa_nil)))) rfl)))), run_init (n := 3) (m := 1) rfl (fun rs k ⟨_, _, _, h, _⟩ => by rw [h]; rfl) (fun π rs kr x hp hB => ?_) h⟩
  obtain ⟨t, s, g, rfl, h1, h2, h3, hne, q⟩ := hB
  dsimp only [uns, List.replicate, List.cons_append, List.nil_append]
  have nN := T.n_Move_names
  repeat walk_at "wk"
  refine ws_for (wi_tup ?_)
  repeat walk_at "wk"
  refine ⟨_, rfl, fun i δ => ∃ r : Rv, δ = [.own x (.obj a.Move []), .d (.str t), .d (.str s), .d (.str g), r], ⟨_, rfl⟩, fun i d δ' hd hI => ?_, fun δ' hI => ?_⟩
  · obtain ⟨r, rfl⟩ := hI
    have hn : nmD d = true ∧ Nd a.Ratio d := by
      have m := List.mem_of_getElem? hd
      simp only [List.mem_cons, List.not_mem_nil, or_false] at m
      rcases m with rfl | rfl | rfl
      · exact ⟨h1, nd_str h1⟩
      · exact ⟨h2, nd_str h2⟩
      · exact ⟨h3, nd_str h3⟩
    refine we_name ?_
    dsimp only [List.set]
    repeat walk_at "wk"
    refine wcb_W0 (rs := [.d d]) rfl rfl ⟨d, rfl, hn.2, fun z => (by cases z), ?_⟩
    rw [hn.1]
    repeat walk_at "wk"
    exact ⟨_, rfl⟩
  · obtain ⟨r, rfl⟩ := hI
    repeat walk_at "wk"
    rw [decide_eq_false hne]
    repeat walk_at "wk"
    refine ws_fld rfl T.o_Move.cls nN rfl (by show 0 < 900; decide) ?_
    repeat walk_at "wk"
    exact ⟨_, rfl, q⟩
theorem m_Move3 (T : Txt W.K W.mg a) : Mak W 3 "Move" a.Move (spI a.Move false (bMove a.Move)) [] := by
  obtain ⟨f, fd, F, M⟩ := T.d_Move_init.ex
  exact ⟨f, fd, _, [], M, F.ok sc_Move_init (len_I (n := 3) fun rs k ⟨_, _, _, h, _⟩ => by rw [h]; rfl) (fun cdv A outer s H vs Q E hr h => (b_Move T f cdv A outer s H vs Q E hr h).imp fun t h => ⟨h.1.nox, h.2⟩), T.o_Move.mg, F.bindsN fun kV doc pm an cdv ct us hl => match us, hl with | [_, _, _, _], _ => rfl, .nil⟩
end Lw
namespace Dt
open PySem PySem.Spec PyProof.Rows L2 Ly
abbrev M3 := Str × Str × Str
def mvT (C : Addr) (m : M3) : D := mv C m.1 m.2.1 m.2.2
/-- an element of a row: a move, or none -/
inductive MvE (K : PySem.W.Frag) (C : Addr) : D → Option M3 → Prop
  | mv (m : M3) : MvE K C (mvT C m) (some m)
  | own {C' : Addr} {fs : List (Str × D)} {mg : Str → Option Value} {x : Str} (c : OwnC K mg x C') (hk : PySem.W.kitOne K (.ref C') (.ref C) = some false) : MvE K C (.obj C' fs) none
  | non {d : D} (ho : isObj d = false) (hk : PySem.W.kitOne K (.type (tyN d)) (.ref C) = some false) : MvE K C d none
inductive MvL (K : PySem.W.Frag) (C : Addr) : List D → List (Option M3) → Prop
  | nil : MvL K C [] []
  | cons {d : D} {o : Option M3} {ds : List D} {os : List (Option M3)} (h : MvE K C d o) (t : MvL K C ds os) : MvL K C (d :: ds) (o :: os)
theorem MvL.get {K : PySem.W.Frag} {C : Addr} {ds : List D} {os : List (Option M3)} (h : MvL K C ds os) : ∀ {i : Nat} {d : D}, ds[i]? = some d → ∃ o, os[i]? = some o ∧ MvE K C d o := by
  induction h with
  | nil => intro i d h; cases h
  | cons h t ih =>
    intro i d e
    cases i with
    | zero => cases e; exact ⟨_, rfl, h⟩
    | succ i => exact ih e
theorem MvL.length {K : PySem.W.Frag} {C : Addr} {ds : List D} {os : List (Option M3)} (h : MvL K C ds os) : ds.length = os.length := by
  induction h with
  | nil => rfl
  | cons h t ih => rw [List.length_cons, List.length_cons, ih]
/-- the first place with which a row is no chain: vs the servers that were passed, l the last of them -/
def brk1 : List (Option M3) → List Str → Str → Nat → Option Nat
  | [], _, _, _ => none
  | none :: _, _, _, i => some i
  | some m :: os, vs, l, i => if m.2.1 ≠ l ∨ m.2.2 ∈ vs then some i else brk1 os (vs ++ [m.2.2]) m.2.2 (i + 1)
def brk : List (Option M3) → Option Nat
  | some m :: os => brk1 (some m :: os) [m.2.1] m.2.1 0
  | none :: _ => some 0
  | [] => none
def posD : Option Nat → D
  | none => .non
  | some i => .int i
end Dt
namespace Lw
open PySem PySem.Spec PyProof.Rows L2 Ly Dt
local macro_rules | `(tactic| walk_at "wk") => `(tactic| first
  | ((with_reducible refine' w_var ?hv ?hn ?_); (case hv => exact rfl); (case hn => (intro z; cases z)))
  | with_reducible refine w_int ?_
  | with_reducible refine w_str ?_
  | with_reducible refine w_op ?_
  | with_reducible refine wa_cons ?_
  | with_reducible refine wa_nil ?_
  | with_reducible refine w_reprL ?_
  | with_reducible refine w_isi2 ?_
  | with_reducible refine w_cb ?_
  | with_reducible refine w_call ?_
  | ((with_reducible refine' ws_retV ?hv ?_); (case hv => exact rfl))
  | with_reducible refine ws_seq ?_
  | with_reducible refine ws_asg ?_
  | with_reducible refine ws_ret ?_
  | with_reducible refine ws_if ?_
  | with_reducible refine ws_next ?_
  | ((with_reducible refine' ws_append ?hv ?hz ?_); (case hv => exact rfl); rotate_left)
  | with_reducible refine ws_drop ?_
  | with_reducible refine ws_retN ?_
  | ((with_reducible refine wg_d ?_); dsimp only [List.set])
  | ((with_reducible refine wg_raw ?_); dsimp only [List.set])
  | ((with_reducible refine wg_E ?_))
  | ((with_reducible refine' we_tup ?hl ?_); (case hl => exact rfl))
  | with_reducible refine wes_cons ?_
  | with_reducible refine wes_nil ?_
  | ((with_reducible refine we_name ?_); dsimp only [List.set])
  | with_reducible refine out_d ?_
  | with_reducible refine out_new ?_
  | with_reducible refine ex_bl ?_
  | with_reducible refine ite_t ?_
  | ((with_reducible refine ex_fzd ?_); dsimp only [List.set, List.nil_append, List.cons_append])
  | ((with_reducible refine ex_fzn ?_); dsimp only [List.set, List.nil_append, List.cons_append])
  | with_reducible refine ite_nt ?_
  | with_reducible refine ite_nf ?_
  | with_reducible refine ite_f ?_
  | with_reducible refine wt_tb ?_
  | with_reducible refine wt_test ?_
  | with_reducible refine wt_and ?_
  | with_reducible refine wt_or ?_
  | with_reducible refine wt_not ?_
  | with_reducible refine w_andV ?_
  | with_reducible refine w_orV ?_
  | with_reducible refine w_notV ?_
  | with_reducible refine w_if ?_
  | with_reducible refine w_bl ?_
  | with_reducible refine w_non ?_
  | with_reducible refine w_ty ?_
  | with_reducible refine w_ref ?_
  | with_reducible refine w_un ?_
  | ((with_reducible refine w_tup ?_); skip)
  | ((with_reducible refine w_lst ?_); skip)
  | ((with_reducible refine' Exists.intro _ (And.intro ?hf (And.intro ?hl ?_))); (case hf => exact rfl); (case hl => exact Nat.le_of_ble_eq_true rfl))
  | with_reducible refine w_fld ?_
  | ((with_reducible refine' fld_of ?ho ?c ?n ?l ?_); (case ho => exact rfl); (case c => assumption); (case n => with_reducible assumption); (case l => exact rfl))
  | with_reducible refine wp_top ?_
  | with_reducible refine wp_bot ?_
  | with_reducible refine w_prop ?_
  | with_reducible refine w_meth ?_
  | with_reducible refine w_smeth ?_
  | with_reducible refine wop_addI ?_
  | with_reducible refine wop_subI ?_
  | ((with_reducible refine' wop_mulI ?c ?_); rotate_left)
  | ((with_reducible refine' wop_fdI ?c ?_); rotate_left)
  | with_reducible refine wop_mdI (by first | decide | assumption) ?_
  | ((with_reducible refine' wop_mdI ?c ?_); rotate_left)
  | ((with_reducible refine' wop_I0 ?e ?_); (case e => exact rfl))
  | ((with_reducible refine' wop_ixT ?e ?_); (case e => exact rfl))
  | ((with_reducible refine' wcb_lenL ?e ?_); (case e => exact rfl))
  | with_reducible refine wcb_lenT ?_
  | ((with_reducible refine' wop_fdX ?c ?_); rotate_left)
  | ((with_reducible refine' wun_U ?e ?_); (case e => exact rfl))
  | with_reducible refine wop_eqI ?_
  | with_reducible refine wop_neI ?_
  | with_reducible refine wop_eqS ?_
  | with_reducible refine wop_neS ?_
  | with_reducible refine wop_isN ?_
  | with_reducible refine wop_notN ?_
  | ((with_reducible refine' wop_inS ?e ?_); (case e => exact rfl))
  | ((with_reducible refine' wop_niS ?e ?_); (case e => exact rfl))
  | with_reducible refine wop_inST ?_
  | with_reducible refine wcb_gcd ?_
  | with_reducible refine wcb_abs ?_
  | with_reducible refine wcb_max2 ?_
  | with_reducible refine wcb_min2 ?_
  | with_reducible refine wcb_int ?_
  | ((with_reducible refine' wcb_isi (b := true) ?ho ?hb ?_); (case ho => exact rfl); (case hb => (dsimp only [tyN]; decide +kernel)))
  | ((with_reducible refine' wcb_isi (b := false) ?ho ?hb ?_); (case ho => exact rfl); (case hb => (dsimp only [tyN]; decide +kernel)))
  | ((with_reducible refine' wcb_listOf ?e ?_); (case e => exact rfl))
  | with_reducible refine wcb_listOfT ?_
  | ((with_reducible refine' wcb_tupOf ?e ?_); (case e => exact rfl))
  | with_reducible refine w_chain ?_
  | with_reducible refine wcb_strS ?_
  | ((with_reducible refine' wcb_lenD ?e ?_); (case e => exact rfl))
  | ((with_reducible refine' wcb_listD ?e ?_); (case e => exact rfl))
  | with_reducible refine w_dnewK ?_
  | with_reducible refine w_dget ?_
  | with_reducible refine w_din ?_
  | with_reducible refine w_dni ?_
  | with_reducible refine w_lenSet ?_
  | with_reducible refine w_listVals ?_
  | with_reducible refine w_chain ?_
  | ((with_reducible refine' wt_yes ?_)))
variable {W : Wd} {a : Ad}
theorem pv_start (T : Txt W.K W.mg a) : Pp W 1 a.Move "start" (spW false fun rs k => ∃ m, rs = [.d (mvT a.Move m)] ∧ k (.d (.str m.2.1))) := by
  refine pp_W T.d_Move_start sc_Move_start bd_Move_start (fun rs k ⟨_, h, _⟩ => by rw [h]; rfl) (body_W (n := 1) (m := 0) rfl (fun rs k ⟨_, h, _⟩ => by rw [h]; rfl) fun f cdv A outer s H E hr => ⟨_, (pss_one (ps_ret (pe_ix (r := rIx W.K) ix_U (pe_fldK (K := W.K) rfl (pv 0) rfl) pe_int (fun _ _ => rfl)))), fun π rs kr hp hB => ?_⟩)
  obtain ⟨m, rfl, q⟩ := hB
  dsimp only [uns, List.replicate, List.cons_append, List.nil_append]
  have cM := T.o_Move.cls
  have nN := T.n_Move_names
  unfold mvT mv
  repeat walk_at "wk"
  exact q
theorem pv_goal (T : Txt W.K W.mg a) : Pp W 1 a.Move "goal" (spW false fun rs k => ∃ m, rs = [.d (mvT a.Move m)] ∧ k (.d (.str m.2.2))) := by
  refine pp_W T.d_Move_goal sc_Move_goal bd_Move_goal (fun rs k ⟨_, h, _⟩ => by rw [h]; rfl) (body_W (n := 1) (m := 0) rfl (fun rs k ⟨_, h, _⟩ => by rw [h]; rfl) fun f cdv A outer s H E hr => ⟨_, (pss_one (ps_ret (pe_ix (r := rIx W.K) ix_U (pe_fldK (K := W.K) rfl (pv 0) rfl) pe_int (fun _ _ => rfl)))), fun π rs kr hp hB => ?_⟩)
  obtain ⟨m, rfl, q⟩ := hB
  dsimp only [uns, List.replicate, List.cons_append, List.nil_append]
  have cM := T.o_Move.cls
  have nN := T.n_Move_names
  unfold mvT mv
  repeat walk_at "wk"
  exact q
theorem k_break_ofT (T : Txt W.K W.mg a) : Cl W 3 "break_of" (spW false fun rs k => ∃ ds os, rs = [.d (.tup ds)] ∧ MvL W.K a.Move ds os ∧ ds.length ≤ 1000 ∧ k (.d (posD (brk os)))) := by
  refine cl_W T.d_break_of sc_break_of bd_break_of (fun rs k ⟨_, _, h, _⟩ => by rw [h]; rfl) (body_W (n := 1) (m := 3) rfl (fun rs k ⟨_, _, h, _⟩ => by rw [h]; rfl) fun f cdv A outer s H E hr => ⟨_, (pss_cons (ps_set (i := 1) sc_break_of.nd rfl (Or.inl rfl) (pe_lst pa_nil)) (pss_cons (ps_for PassesOwn.never rfl (pi_enumT (K := W.K) rfl (by rfl) T.b_enumerate (pa_cons (pv 0) pa_nil)) (pg_tupK (K := W.K) (n := 2) rfl rfl (pgs_cons (pg_name (i := 2) sc_break_of.nd rfl (Or.inl rfl)) (pgs_cons (pg_name (i := 3) sc_break_of.nd rfl (Or.inl rfl)) pgs_nil))) (pss_cons (ps_if (pt_not (pt_val (pe_callB (r := rIsi W.K) call_isi (by rfl) T.b_isinstance (by decide +kernel) (pa_cons (pv 3) (pa_cons (pe_gn (v := .ref a.Move) (by rfl) T.o_Move.mg rfl) pa_nil))))) (pss_one (ps_ret (pv 2))) pss_nil) (pss_cons (ps_if (pt_cmpR (r := rEqU W.K) (op_eqU hr.units) (pv 2) pe_int (nomark _)) (pss_one (ps_expr (pe_bmK (K := W.K) rfl PySem.F.plainAttrs_list PySem.F.slot_list_append PySem.F.type_list_append mt_append (pv 1) (pa_cons (pe_pp T.o_Move.cls (pv_start T) hr (by decide) (pv 3) rfl) pa_nil)))) pss_nil) (pss_cons (ps_if (PW.pt (pw_or (pt_cmpR (r := rNeU W.K) (op_neU hr.units) (pe_pp T.o_Move.cls (pv_start T) hr (by decide) (pv 3) rfl) (pe_ix (r := rIx W.K) ix_U (pv 1) (pe_un un_neg pe_int) (fun _ _ => rfl)) (nomark _)) (pw_or1 (pt_cmpR (r := rIn W.K false) op_in_seq (pe_pp T.o_Move.cls (pv_goal T) hr (by decide) (pv 3) rfl) (pv 1) rfl)))) (pss_one (ps_ret (pv 2))) pss_nil) (pss_one (ps_expr (pe_bmK (K := W.K) rfl PySem.F.plainAttrs_list PySem.F.slot_list_append PySem.F.type_list_append mt_append (pv 1) (pa_cons (pe_pp T.o_Move.cls (pv_goal T) hr (by decide) (pv 3) rfl) pa_nil)))))))) (pss_one (ps_ret pe_non)))), fun π rs kr hp hB => ?_⟩)
  obtain ⟨ds, os, rfl, hm, hl, q⟩ := hB
  dsimp only [uns, List.replicate, List.cons_append, List.nil_append]
  have cM := T.o_Move.cls
  repeat walk_at "wk"
  refine wg_new fun p => ?_
  dsimp only [List.set]
  refine ws_seq (ws_for (wi_enumT ?_))
  repeat walk_at "wk"
  refine ⟨_, rfl, fun i δ => ∃ (vs : List Str) (l : Str) (r1 r2 : Rv), δ = [.d (.tup ds), .own p (.lst (vs.map .str)), r1, r2] ∧ vs.length ≤ i + 1 ∧ ((i = 0 ∧ vs = []) ∨ (0 < i ∧ vs.getLast? = some l ∧ brk os = brk1 (os.drop i) vs l i)), ⟨[], ("" : Str), .un, .un, rfl, by simp, .inl ⟨rfl, rfl⟩⟩, fun i x δ' hd hI => ?_, fun δ' hI => ?_⟩
  · obtain ⟨vs, l, r1, r2, rfl, hv, hI⟩ := hI
    obtain ⟨d, hd2, rfl⟩ := enD_get hd
    obtain ⟨o, ho, me⟩ := hm.get hd2
    have hi1 : i < ds.length := (List.getElem?_eq_some_iff.mp hd2).1
    have hdr : os.drop i = o :: os.drop (i + 1) := by
      obtain ⟨hi, e⟩ := List.getElem?_eq_some_iff.mp ho
      rw [List.drop_eq_getElem_cons hi, e]
    refine we_tup rfl ?_
    repeat walk_at "wk"
    cases me with
    | own c h2 =>
      refine wcb_isiOO c h2 ?_
      repeat walk_at "wk"
      have e : brk os = some i := by
        rcases hI with ⟨rfl, _⟩ | ⟨_, _, e⟩
        · rw [List.drop_zero] at hdr
          rw [hdr]
          rfl
        · rw [e, hdr]
          rfl
      rw [e] at q
      exact q
    | non h1 h2 =>
      refine wcb_isiC h1 h2 ?_
      repeat walk_at "wk"
      have e : brk os = some i := by
        rcases hI with ⟨rfl, _⟩ | ⟨_, _, e⟩
        · rw [List.drop_zero] at hdr
          rw [hdr]
          rfl
        · rw [e, hdr]
          rfl
      rw [e] at q
      exact q
    | mv m =>
      refine wcb_isiO T.o_Move ?_
      repeat walk_at "wk"
      refine if_meet (I := fun δ => ∃ (ws : List Str) (l' : Str), δ = [.d (.tup ds), .own p (.lst (ws.map .str)), .d (.int i), .d (mvT a.Move m)] ∧ ws.length ≤ i + 1 ∧ ws.getLast? = some l' ∧ brk os = brk1 (some m :: os.drop (i + 1)) ws l' i) (fun hb => ?_) (fun hb => ?_) fun δ' hJ => ?_
      · have hi0 : i = 0 := by have := of_decide_eq_true hb; omega
        subst hi0
        rcases hI with ⟨_, rfl⟩ | ⟨z, _⟩
        · refine ws_append rfl (by show 0 < 4000; decide) ?_
          repeat walk_at "wk"
          refine ⟨⟨_, rfl⟩, wcb_W0 (rs := [.d (mvT a.Move m)]) rfl rfl ⟨m, rfl, fun z => (by cases z), ?_⟩⟩
          refine ⟨_, rfl, ?_⟩
          refine ⟨[m.2.1], m.2.1, rfl, by simp, rfl, ?_⟩
          rw [List.drop_zero] at hdr
          rw [hdr]
          rfl
        · exact absurd z (by omega)
      · have hi0 : i ≠ 0 := fun z => by
          rw [z] at hb
          exact absurd hb (by decide)
        rcases hI with ⟨z, _⟩ | ⟨_, hg, e⟩
        · exact absurd z hi0
        · exact ⟨vs, l, rfl, hv, hg, by rw [e, hdr]⟩
      · obtain ⟨ws, l', rfl, hw, hg, e⟩ := hJ
        repeat walk_at "wk"
        refine ⟨⟨_, rfl⟩, wcb_W0 (rs := [.d (mvT a.Move m)]) rfl rfl ⟨m, rfl, fun z => (by cases z), ?_⟩⟩
        repeat walk_at "wk"
        have hat : atI (ws.map D.str) (-1) = some (.str l') := by
          have h1 : ws ≠ [] := fun z => by rw [z] at hg; cases hg
          have h0 : 0 < ws.length := List.length_pos_iff.mpr h1
          unfold atI ixN
          rw [if_neg (by decide), List.length_map, if_pos (by omega)]
          show (ws.map D.str)[((-1 : Int) + (ws.length : Nat)).toNat]? = _
          rw [show ((-1 : Int) + (ws.length : Nat)).toNat = ws.length - 1 by omega, List.getElem?_map]
          rw [List.getLast?_eq_getElem?] at hg
          rw [hg]
          rfl
        refine wop_ixL rfl hat ?_
        repeat walk_at "wk"
        have out : brk os = some i → kr (.d (.int i)) := fun z => by
          rw [z] at q
          exact q
        by_cases h1 : m.2.1 = l'
        · rw [decide_eq_true h1]
          repeat walk_at "wk"
          refine ⟨⟨_, rfl⟩, wcb_W0 (rs := [.d (mvT a.Move m)]) rfl rfl ⟨m, rfl, fun z => (by cases z), ?_⟩⟩
          repeat walk_at "wk"
          by_cases h2 : m.2.2 ∈ ws
          · rw [decide_eq_true h2]
            repeat walk_at "wk"
            refine out ?_
            rw [e]
            unfold brk1
            rw [if_pos (.inr h2)]
          · rw [decide_eq_false h2]
            repeat walk_at "wk"
            case hz => rw [List.length_map]; omega
            refine ⟨⟨_, rfl⟩, wcb_W0 (rs := [.d (mvT a.Move m)]) rfl rfl ⟨m, rfl, fun z => (by cases z), ?_⟩⟩
            refine ⟨_, rfl, ws ++ [m.2.2], m.2.2, _, _, by rw [List.map_append]; rfl, by rw [List.length_append]; simp; omega, .inr ⟨by omega, by simp, ?_⟩⟩
            rw [e]
            conv => lhs; unfold brk1
            rw [if_neg (fun z => z.elim (fun z => z h1) h2)]
        · rw [decide_eq_false h1]
          repeat walk_at "wk"
          refine out ?_
          rw [e]
          unfold brk1
          rw [if_pos (.inl h1)]
  · obtain ⟨vs, l, r1, r2, rfl, hv, hI⟩ := hI
    repeat walk_at "wk"
    have e : brk os = none := by
      have hlo : os.length = (enD ds).length := by rw [enD_len, hm.length]
      rcases hI with ⟨z, _⟩ | ⟨_, _, e⟩
      · rw [← hlo] at z
        rw [List.length_eq_zero_iff.mp z]
        rfl
      · rw [e, ← hlo, List.drop_length]
        rfl
    rw [e] at q
    exact q
end Lw
namespace Lw
open PySem PySem.Spec PyProof.Rows L2 Ly
local macro_rules | `(tactic| walk_at "rd") => `(tactic| first
  | ((with_reducible refine' i_var ?hv ?_); (case hv => exact rfl))
  | with_reducible refine i_c ?_
  | with_reducible refine i_op ?_
  | with_reducible refine i_cons ?_
  | with_reducible refine i_nil ?_
  | with_reducible refine i_cb ?_
  | with_reducible refine i_call ?_
  | with_reducible refine i_I0 ?_
  | with_reducible refine i_add_i ?_
  | with_reducible refine i_sub_i ?_
  | with_reducible refine i_md_i (by first | decide | assumption) ?_
  | ((with_reducible refine' i_md_i ?c ?_); rotate_left)
  | ((with_reducible refine' i_mul_i ?c ?_); rotate_left)
  | with_reducible refine i_fd_i (by decide) ?_
  | ((with_reducible refine' i_fd_i ?c ?_); rotate_left)
  | with_reducible refine i_int ?_
  | with_reducible refine i_abs ?_
  | with_reducible refine i_max2 ?_
  | with_reducible refine i_min2 ?_
  | with_reducible refine i_gcd ?_
  | with_reducible refine i_seq ?_
  | with_reducible refine i_if ?_
  | with_reducible refine i_asg ?_
  | with_reducible refine i_ret ?_
  | with_reducible refine i_drop ?_
  | with_reducible refine i_next ?_
  | with_reducible refine i_un ?_
  | with_reducible refine i_U ?_
  | ((with_reducible refine i_gname ?_); dsimp only [List.set])
  | with_reducible refine i_test ?_
  | with_reducible refine i_not ?_
  | with_reducible refine i_or ?_
  | with_reducible refine i_and ?_
  | with_reducible refine i_tb ?_
  | with_reducible refine i_andV ?_
  | with_reducible refine i_orV ?_
  | with_reducible refine i_notV ?_
  | with_reducible refine i_ifx ?_
  | with_reducible refine i_ext ?_
  | with_reducible refine i_exf ?_
  | with_reducible refine i_exn ?_
  | with_reducible refine i_itt ?_
  | with_reducible refine i_itf ?_
  | with_reducible refine i_gsub ?_
  | with_reducible refine i_nt ?_
  | with_reducible refine i_tup ?_
  | with_reducible refine i_lst ?_
  | with_reducible refine i_nf ?_
  | with_reducible refine i_isint ?_
  | ((with_reducible refine' i_top ?r ?_); (case r => walk_at "hp"))
  | ((with_reducible refine' i_bot ?r ?_); (case r => walk_at "hp"))
  | with_reducible refine i_fld ?_
  | with_reducible refine i_sfld ?_
  | with_reducible refine i_pp ?_
  | with_reducible refine i_meth ?_
  | with_reducible refine i_smeth ?_
  | with_reducible refine i_make ?_
  | with_reducible refine i_sl ?_
  | with_reducible refine i_noPart ?_
  | with_reducible refine i_part ?_
  | with_reducible refine i_smethK ?_
  | with_reducible refine i_sk1 ?_
  | with_reducible refine i_makeK ?_
  | with_reducible refine i_methK ?_
  | with_reducible refine i_mk11 ?_
  | ((with_reducible refine' i_rmk ?r ?h1 ?h2 ?_); (case r => walk_at "hp"); (case h1 => decide +kernel); (case h2 => decide +kernel))
  | with_reducible refine i_tpar ?_
  | ((with_reducible refine i_rpar ?_); dsimp only [List.set])
  | with_reducible refine i_eq_s rfl ?_
  | with_reducible refine i_ne_s rfl ?_
  | ((with_reducible refine' i_rtop ?r ?c ?n ?_); (case r => walk_at "hp"); (case c => assumption); (case n => assumption))
  | ((with_reducible refine' i_rbot ?r ?c ?n ?_); (case r => walk_at "hp"); (case c => assumption); (case n => assumption))
  | ((with_reducible refine' i_rpp ?r ?_); (case r => walk_at "hp"))
  | ((with_reducible refine' i_rmeth ?r ?h1 ?h2 ?_); (case r => walk_at "hp"); (case h1 => decide +kernel); (case h2 => decide +kernel))
  | ((with_reducible refine' i_ix_l ?hp ?ha ?_); (case hp => walk_at "hp"); (case ha => exact rfl))
  | ((with_reducible refine' i_len_l ?hp ?_); (case hp => walk_at "hp"))
  | ((with_reducible refine' i_ix_f0 ?hp ?_); (case hp => walk_at "hp"))
  | ((with_reducible refine' i_ix_f1 ?hp ?_); (case hp => walk_at "hp"))
  | ((with_reducible refine' i_ix_t ?hp ?ha ?_); (case hp => walk_at "hp"); (case ha => exact rfl)))
local macro_rules | `(tactic| walk_at "hp") => `(tactic| first
  | assumption
  | exact upd_same
  | exact SqL.of (by assumption)
  | (refine' Dr.tup (by assumption) ?hq; (case hq => walk_at "hp"))
  | (refine' FrL.same (by assumption) ?hq; (case hq => walk_at "hp"))
  | (refine' FracAt.same (by assumption) ?hq; (case hq => walk_at "hp"))
  | (refine' FracAt.nl (by assumption) ?hq; (case hq => walk_at "hp"))
  | (refine' RatAt.nl (by assumption) ?hq; (case hq => walk_at "hp"))
  | (refine' Num.nl (by assumption) ?hq; (case hq => walk_at "hp"))
  | (refine' FracAt.pk (by assumption) ?hq; (case hq => walk_at "hp"))
  | (refine' RatAt.pk (by assumption) ?hq; (case hq => walk_at "hp"))
  | (refine' Num.pk (by assumption) ?hq; (case hq => walk_at "hp"))
  | (refine' Dr.keep (by assumption) _ _ (by assumption) ?hq; (case hq => walk_at "hp"))
  | (refine' (show Same _ _ by assumption) _ _ ?hq; (case hq => walk_at "hp"))
  | (refine' RatAt.same (by assumption) ?hq; (case hq => walk_at "hp"))
  | (refine' Num.same (by assumption) ?hq; (case hq => walk_at "hp")))
local macro_rules | `(tactic| walk_at "sm") => `(tactic| first
  | assumption
  | exact Same.refl _
  | (refine' Same.kl (by assumption) (by assumption) ?aa; (case aa => walk_at "sm"))
  | (refine' Same.trans ?aa (by assumption); (case aa => walk_at "sm")))
local macro_rules | `(tactic| walk_at "dr") => `(tactic| first
  | assumption
  | (refine' Dr.same ?aa (by assumption); (case aa => walk_at "dr"))
  | (refine' Dr.trans ?aa (by assumption); (case aa => walk_at "dr")))
variable {W : Wd} {a : Ad}
end Lw
namespace Ly
open PySem PySem.Spec PyProof.Rows L2
structure Nm (x : Str) : Prop where
  pos : 1 ≤ x.length
  len : x.length ≤ 8
  abc : ∀ c ∈ x.cps.toList, 97 ≤ c ∧ c ≤ 122
  l5 : x.length ≤ 5
  low : x.length ≤ 3 ∨ ∃ c ∈ x.cps.toList, c ≤ 100
def spNamed : Sp := fun vs H Q _ => ∃ (p tk : Addr) (n : Int) (taken : List Str), vs = [.ref p, .int n, .ref tk] ∧ Pot H p ∧ tk ≠ p ∧ H tk = some (.lst (taken.map V.str)) ∧ 0 ≤ n ∧ n.toNat + taken.length < 100 ∧
  ∀ r H' (ys : List Str), H r = none → Dr p H H' → H' r = some (.lst (ys.map V.str)) → ys.length = n.toNat → ys.Nodup → (∀ y ∈ ys, Nm y ∧ y ∉ taken) → Q (.ref r) H'
theorem nodup_sub {α : Type} [DecidableEq α] : ∀ {L M : List α}, L.Nodup → (∀ x ∈ L, x ∈ M) → L.length ≤ M.length
  | [], _, _, _ => Nat.zero_le _
  | x :: L, M, h, k => by
    have hx : x ∈ M := k x (List.mem_cons_self ..)
    have hn := List.nodup_cons.mp h
    have e := List.length_erase_of_mem hx
    have p : 0 < M.length := List.length_pos_of_mem hx
    have ih := nodup_sub (M := M.erase x) hn.2 fun y hy => (List.mem_erase_of_ne (fun z => hn.1 (by rw [← z]; exact hy))).mpr (k y (List.mem_cons_of_mem _ hy))
    rw [List.length_cons]
    omega
def sp (x : Str) (i : Nat) : Str := x ++ ⟨#[97 + i % 26]⟩ ++ ⟨#[97 + i / 26]⟩
theorem sp_cps (x : Str) (i : Nat) : (sp x i).cps.toList = x.cps.toList ++ [97 + i % 26] ++ [97 + i / 26] := by
  unfold sp
  rw [app_toList, app_toList]
theorem sp_inj {x : Str} {i j : Nat} (h : sp x i = sp x j) : i = j := by
  have e := congrArg (fun z : Str => z.cps.toList) h
  simp only [sp_cps] at e
  have e1 := List.append_inj' e rfl
  have e2 := List.append_inj' e1.1 rfl
  have a1 := (List.cons.inj e1.2).1
  have a2 := (List.cons.inj e2.2).1
  omega
theorem sp_nodup (x : Str) (n : Nat) : ((List.range n).map (sp x)).Nodup := by
  unfold List.Nodup
  rw [List.pairwise_map]
  exact List.nodup_range.imp fun h e => h (sp_inj e)
/-- a value by its text -/
def sP (P : Str → Bool) : V → Bool
  | .str x => P x
  | _ => false
theorem filt_strs (P : Str → Bool) (L : List Str) : (L.map V.str).filter (sP P) = (L.filter P).map V.str := by
  induction L with
  | nil => rfl
  | cons x L ih =>
    by_cases h : P x = true
    · have h2 : sP P (V.str x) = true := h
      simp [h, h2, ih]
    · have h2 : ¬ sP P (V.str x) = true := h
      simp [h, h2, ih]
/-- a letter as a text -/
def Let (v : V) : Prop := ∃ c, v = .str ⟨#[c]⟩ ∧ 97 ≤ c ∧ c ≤ 122
theorem lets : ∀ (ys : List V), (∀ (i : Nat) (v : V), ys[i]? = some v → Let v) → ∃ cs : List Nat, ys = cs.map (fun c => V.str ⟨#[c]⟩) ∧ ∀ c ∈ cs, 97 ≤ c ∧ c ≤ 122
  | [], _ => ⟨[], rfl, fun c h => by cases h⟩
  | y :: ys, h => by
    obtain ⟨c, e, h1, h2⟩ := h 0 y rfl
    obtain ⟨cs, e2, h3⟩ := lets ys fun i v k => h (i + 1) v k
    refine ⟨c :: cs, by rw [e, e2]; rfl, fun d hd => ?_⟩
    rcases List.mem_cons.mp hd with rfl | hd
    · exact ⟨h1, h2⟩
    · exact h3 d hd
theorem join_lets (cs : List Nat) : (Txt.join ("" : Str) (cs.map fun c => (⟨#[c]⟩ : Str))).cps.toList = cs := by
  rw [TL.join_eq, show ("" : Str) = ⟨#[]⟩ by decide +kernel]
  induction cs with
  | nil => rfl
  | cons c cs ih =>
    rw [List.map_cons, PyProof.Rows.join_nil_cons, app_toList, ih]
    rfl
end Ly
namespace Lw
open PySem PySem.Spec PyProof.Rows L2 Ly
local macro_rules | `(tactic| walk_at "rd") => `(tactic| first
  | ((with_reducible refine' i_var ?hv ?_); (case hv => exact rfl))
  | with_reducible refine i_c ?_
  | with_reducible refine i_op ?_
  | with_reducible refine i_cons ?_
  | with_reducible refine i_nil ?_
  | with_reducible refine i_cb ?_
  | with_reducible refine i_call ?_
  | with_reducible refine i_I0 ?_
  | with_reducible refine i_add_i ?_
  | with_reducible refine i_sub_i ?_
  | with_reducible refine i_md_i (by first | decide | assumption) ?_
  | ((with_reducible refine' i_md_i ?c ?_); rotate_left)
  | ((with_reducible refine' i_mul_i ?c ?_); rotate_left)
  | with_reducible refine i_fd_i (by decide) ?_
  | ((with_reducible refine' i_fd_i ?c ?_); rotate_left)
  | with_reducible refine i_int ?_
  | with_reducible refine i_abs ?_
  | with_reducible refine i_max2 ?_
  | with_reducible refine i_min2 ?_
  | with_reducible refine i_gcd ?_
  | with_reducible refine i_seq ?_
  | with_reducible refine i_if ?_
  | with_reducible refine i_asg ?_
  | with_reducible refine i_ret ?_
  | with_reducible refine i_drop ?_
  | with_reducible refine i_next ?_
  | with_reducible refine i_un ?_
  | with_reducible refine i_U ?_
  | ((with_reducible refine i_gname ?_); dsimp only [List.set])
  | with_reducible refine i_test ?_
  | with_reducible refine i_not ?_
  | with_reducible refine i_tb ?_
  | with_reducible refine i_andV ?_
  | with_reducible refine i_orV ?_
  | with_reducible refine i_notV ?_
  | with_reducible refine i_ifx ?_
  | with_reducible refine i_ext ?_
  | with_reducible refine i_exf ?_
  | with_reducible refine i_exn ?_
  | with_reducible refine i_itt ?_
  | with_reducible refine i_itf ?_
  | with_reducible refine i_gsub ?_
  | with_reducible refine i_nt ?_
  | with_reducible refine i_tup ?_
  | with_reducible refine i_lst ?_
  | with_reducible refine i_nf ?_
  | with_reducible refine i_isint ?_
  | ((with_reducible refine' i_top ?r ?_); (case r => walk_at "hp"))
  | ((with_reducible refine' i_bot ?r ?_); (case r => walk_at "hp"))
  | with_reducible refine i_fld ?_
  | with_reducible refine i_sfld ?_
  | with_reducible refine i_pp ?_
  | with_reducible refine i_meth ?_
  | with_reducible refine i_smeth ?_
  | with_reducible refine i_make ?_
  | with_reducible refine i_sl ?_
  | with_reducible refine i_noPart ?_
  | with_reducible refine i_part ?_
  | with_reducible refine i_smethK ?_
  | with_reducible refine i_sk1 ?_
  | with_reducible refine i_makeK ?_
  | with_reducible refine i_methK ?_
  | with_reducible refine i_mk11 ?_
  | ((with_reducible refine' i_rmk ?r ?h1 ?h2 ?_); (case r => walk_at "hp"); (case h1 => decide +kernel); (case h2 => decide +kernel))
  | with_reducible refine i_tpar ?_
  | ((with_reducible refine i_rpar ?_); dsimp only [List.set])
  | with_reducible refine i_eq_s rfl ?_
  | with_reducible refine i_ne_s rfl ?_
  | ((with_reducible refine' i_rtop ?r ?c ?n ?_); (case r => walk_at "hp"); (case c => assumption); (case n => assumption))
  | ((with_reducible refine' i_rbot ?r ?c ?n ?_); (case r => walk_at "hp"); (case c => assumption); (case n => assumption))
  | ((with_reducible refine' i_rpp ?r ?_); (case r => walk_at "hp"))
  | ((with_reducible refine' i_rmeth ?r ?h1 ?h2 ?_); (case r => walk_at "hp"); (case h1 => decide +kernel); (case h2 => decide +kernel))
  | ((with_reducible refine' i_ix_l ?hp ?ha ?_); (case hp => walk_at "hp"); (case ha => exact rfl))
  | ((with_reducible refine' i_len_l ?hp ?_); (case hp => walk_at "hp"))
  | ((with_reducible refine' i_ix_f0 ?hp ?_); (case hp => walk_at "hp"))
  | ((with_reducible refine' i_ix_f1 ?hp ?_); (case hp => walk_at "hp"))
  | ((with_reducible refine' i_ix_t ?hp ?ha ?_); (case hp => walk_at "hp"); (case ha => exact rfl)))
local macro_rules | `(tactic| walk_at "hp") => `(tactic| first
  | assumption
  | exact upd_same
  | exact SqL.of (by assumption)
  | (refine' Dr.tup (by assumption) ?hq; (case hq => walk_at "hp"))
  | (refine' FrL.same (by assumption) ?hq; (case hq => walk_at "hp"))
  | (refine' FracAt.same (by assumption) ?hq; (case hq => walk_at "hp"))
  | (refine' FracAt.nl (by assumption) ?hq; (case hq => walk_at "hp"))
  | (refine' RatAt.nl (by assumption) ?hq; (case hq => walk_at "hp"))
  | (refine' Num.nl (by assumption) ?hq; (case hq => walk_at "hp"))
  | (refine' FracAt.pk (by assumption) ?hq; (case hq => walk_at "hp"))
  | (refine' RatAt.pk (by assumption) ?hq; (case hq => walk_at "hp"))
  | (refine' Num.pk (by assumption) ?hq; (case hq => walk_at "hp"))
  | (refine' Dr.keep (by assumption) _ _ (by assumption) ?hq; (case hq => walk_at "hp"))
  | (refine' (show Same _ _ by assumption) _ _ ?hq; (case hq => walk_at "hp"))
  | (refine' RatAt.same (by assumption) ?hq; (case hq => walk_at "hp"))
  | (refine' Num.same (by assumption) ?hq; (case hq => walk_at "hp")))
local macro_rules | `(tactic| walk_at "sm") => `(tactic| first
  | assumption
  | exact Same.refl _
  | (refine' Same.kl (by assumption) (by assumption) ?aa; (case aa => walk_at "sm"))
  | (refine' Same.trans ?aa (by assumption); (case aa => walk_at "sm")))
local macro_rules | `(tactic| walk_at "dr") => `(tactic| first
  | assumption
  | (refine' Dr.same ?aa (by assumption); (case aa => walk_at "dr"))
  | (refine' Dr.trans ?aa (by assumption); (case aa => walk_at "dr")))
variable {W : Wd} {a : Ad}
def abc : Str := "abcdefghijklmnopqrstuvwxyz"
theorem abc_len : abc.length = 26 := by decide +kernel
theorem abc_at (k : Nat) (h : k < 26) : abc.cps.toList[k]? = some (97 + k) := by
  have e : abc.cps.toList = (List.range 26).map (97 + ·) := by decide +kernel
  rw [e]
  simp [h]
def NJ (p l tk : Addr) (n : Int) (taken : List Str) (H : Hp) (i : Nat) (σ : L2.St) (H' : Hp) : Prop := ∃ (v1 v2 v3 v4 v5 : Option V) (ys : List Str), σ = [some (.ref p), some (.int n), some (.ref tk), v1, some (.str abc), some (.ref l), v2, v3, v4, v5] ∧ Dr p H H' ∧ H' l = some (.lst (ys.map V.str)) ∧ ys.length = i ∧ ys.Nodup ∧ ∀ y ∈ ys, Nm y ∧ y ∉ taken
theorem k_law_named (T : Txt W.K W.mg a) : Cl W 2 "_law_named" spNamed := by
  refine cl_of' T.d_law_named sc_law_named bd_law_named (fun vs H Q E ⟨p, tk, n, taken, h, _⟩ => by rw [h]; rfl) fun f cdv A outer s0 H vs Q E hr h => ?_
  obtain ⟨p, tk, n, taken, rfl, hp, ht, he, n0, hz, q⟩ := h
  refine ⟨_, (pss_cons (ps_asg (pe_tup (pa_cons pe_str (pa_cons (pe_lst pa_nil) pa_nil))) (pg_tupK (K := W.K) (n := 2) rfl rfl (pgs_cons (pg_name (i := 4) sc_law_named.nd rfl (Or.inr rfl)) (pgs_cons (pg_name (i := 5) sc_law_named.nd rfl (Or.inr rfl)) pgs_nil)))) (pss_cons (ps_for PassesOwn.never rfl (pi_range1 rfl T.b_range (pa_cons (pv 1) pa_nil)) (pg_name (i := 3) sc_law_named.nd rfl (Or.inl rfl)) (pss_cons (ps_set (i := 6) sc_law_named.nd rfl (Or.inr rfl) (pe_joinK (K := W.K) rfl pe_str (pe_lc (own := [("_law_turn", 8)]) (g := (gName 8)) (tt := tYes) rfl sc_law_named.nd (pi_range1 rfl T.b_range (pa_cons (pe_op op_addU pe_int (pe_cl (k_law_draw T) hr (by decide) rfl (pa_cons (pv 0) (pa_cons pe_int pa_nil)))) pa_nil)) (blkOk_by (N := N_law_named) (sc := defScope s_law_named) (by decide +kernel)) (fun _ _ _ _ _ => (pg_name (i := 8) sc_law_named.nd rfl (Or.inl rfl))) (fun _ _ _ _ _ => pts_nil) (fun _ _ _ _ _ => (pe_ix (r := rIx W.K) ix_U (pv 4) (pe_cl (k_law_draw T) hr (by decide) rfl (pa_cons (pv 0) (pa_cons pe_int pa_nil))) (fun _ _ => rfl)))))) (Evl.pss_cut (ps_if (PW.pt (pw_or (pt_cmpR (r := rIn W.K false) op_in_seq (pv 6) (pv 5) rfl) (pw_or1 (pt_cmpR (r := rIn W.K false) op_in_seq (pv 6) (pv 2) rfl)))) (pss_cons (ps_setLc (i := 7) (own := [("_law_turn", 8)]) (g := (gName 8)) (tt := tYes) rfl sc_law_named.nd rfl rfl (sw_true rfl rfl rfl (by decide +kernel)) (pi_range1 rfl T.b_range (pa_cons pe_int pa_nil)) (blkOk_by (N := N_law_named) (sc := defScope s_law_named) (by decide +kernel)) (fun _ _ _ _ _ => (pg_name (i := 8) sc_law_named.nd rfl (Or.inl rfl))) (fun _ _ _ _ _ => pts_nil) (fun _ _ _ _ _ => (pe_op op_addU (pe_op op_addU (pv 6) (pe_ix (r := rIx W.K) ix_U (pv 4) (pe_op op_modU (pv 8) pe_int) (fun _ _ => rfl))) (pe_ix (r := rIx W.K) ix_U (pv 4) (pe_op op_fdivU (pv 8) pe_int) (fun _ _ => rfl))))) (pss_one (ps_set (i := 6) sc_law_named.nd rfl (Or.inr rfl) (pe_ix (r := rIx W.K) ix_U (pe_lc (own := [("_law_near", 9)]) (g := (gName 9)) (tt := _) rfl sc_law_named.nd (pi_listK (K := W.K) rfl (pv 7)) (blkOk_by (N := N_law_named) (sc := defScope s_law_named) (by decide +kernel)) (fun _ _ _ _ _ => (pg_name (i := 9) sc_law_named.nd rfl (Or.inl rfl))) (fun _ _ _ _ _ => (pts_one (PW.pt (pw_and (pt_cmpR (r := rIn W.K true) op_notIn_seq (pv 9) (pv 5) rfl) (pw_and1 (pt_cmpR (r := rIn W.K true) op_notIn_seq (pv 9) (pv 2) rfl)))))) (fun _ _ _ _ _ => (pv 9))) pe_int (fun _ _ => rfl))))) pss_nil) (pss_one (ps_expr (pe_bmK (K := W.K) rfl PySem.F.plainAttrs_list PySem.F.slot_list_append PySem.F.type_list_append mt_append (pv 5) (pa_cons (pv 6) pa_nil))))))) (pss_one (ps_ret (pv 5))))), ?_⟩
  refine i_start (σ' := [some (V.ref p), some (V.int n), some (V.ref tk), none, none, none, none, none, none, none]) rfl ?_
  repeat walk_at "rd"
  refine i_mkL (by decide) fun l H1 nl hl s1 => ?_
  repeat walk_at "rd"
  refine i_mkT2 fun t H2 _ ht2 s2 => ?_
  refine ⟨t, _, rfl, SqT.of ht2, rfl, _, _, rfl, ?_⟩
  repeat walk_at "rd"
  refine ⟨_, _, rfl, ?_⟩
  repeat walk_at "rd"
  refine ⟨rfl, ?_⟩
  repeat walk_at "rd"
  have np : l ≠ p := fresh_ne hp nl
  have hl2 := s2 _ _ hl
  have k0 : Dr p H H2 := Dr.of (s1.trans s2) hp
  refine i_for ?_
  repeat walk_at "rd"
  refine i_rfor n0 (by omega) (NJ p l tk n taken H) ⟨_, _, _, _, _, [], rfl, k0, hl2, rfl, List.nodup_nil, fun y h => by cases h⟩ ?_ ?_
  · clear hl2 k0 hl ht2 s1 s2
    rintro i σ' H3 hi ⟨v1, v2, v3, v4, v5, ys, rfl, k3, h3, hy, nd, ok⟩
    dsimp only [List.set]
    repeat walk_at "rd"
    refine i_tM1 ?_
    repeat walk_at "rd"
    refine ⟨⟨_, rfl⟩, ?_⟩
    refine i_lcr ?_
    repeat walk_at "rd"
    refine i_draw k3.pot' (by decide) (sz_lit (by decide)) fun d H4 d0 d1 k4 => ?_
    repeat walk_at "rd"
    refine i_rlcRp (p := p) (fun _ _ v => Let v) k4.pot' (by omega) (by omega) (fun _ _ _ _ _ g => g) (fun x => rfl) ?_ ?_
    · intro j H5 Q' hj k5 q'
      dsimp only [List.map, wipe, List.set]
      repeat walk_at "rd"
      refine i_draw k5.pot' (by decide) (sz_lit (by decide)) fun e H6 e0 e1 k6 => ?_
      repeat walk_at "rd"
      obtain ⟨e, rfl⟩ : ∃ k : Nat, e = (k : Int) := ⟨e.toNat, by omega⟩
      refine i_ixS (by rw [abc_len]; decide) (abc_at e (by omega)) ?_
      exact q' _ H6 k6 ⟨97 + e, rfl, by omega, by omega⟩
    intro r H5 zs nr k5 hr' hzl g
    obtain ⟨cs, rfl, hcs⟩ := lets zs g
    rw [List.length_map] at hzl
    have er : cs.map (fun c => V.str ⟨#[c]⟩) = (cs.map fun c => (⟨#[c]⟩ : Str)).map V.str := by
      rw [List.map_map]
      rfl
    rw [er] at hr'
    have jl := join_lets cs
    have sumL : ∀ l : List Nat, ((l.map fun c => (⟨#[c]⟩ : Str)).map (·.length)).sum = l.length := fun l => by
      induction l with
      | nil => rfl
      | cons c l ih =>
        rw [List.map_cons, List.map_cons, List.sum_cons, ih, List.length_cons, Nat.add_comm]
        rfl
    refine i_join hr' ?_ ?_
    · rw [sumL, List.length_map, show ("" : Str).length = 0 by decide +kernel]
      omega
    generalize Txt.join ("" : Str) (cs.map fun c => (⟨#[c]⟩ : Str)) = lb at jl ⊢
    have lbl : lb.length = cs.length := by
      show lb.cps.size = _
      rw [← Array.length_toList, jl]
    have kk : Dr p H H5 := (k3.trans k4).trans k5
    have h5 : H5 l = some (.lst (ys.map V.str)) := k5.keep _ _ np (k4.keep _ _ np h3)
    clear k3 k4 k5 h3 hr' er g
    have t5 : H5 tk = some (.lst (taken.map V.str)) := kk.keep _ _ ht he
    repeat walk_at "rd"
    refine ⟨fun σ' H6 => ∃ (w2 w3 w4 : Option V) (z : Str), σ' = [some (.ref p), some (.int n), some (.ref tk), some (.int i), some (.str abc), some (.ref l), some (.str z), w2, w3, w4] ∧ Dr p H H6 ∧ H6 l = some (.lst (ys.map V.str)) ∧ Nm z ∧ z ∉ ys ∧ z ∉ taken, ?_, ?_⟩
    · repeat walk_at "rd"
      refine i_orB (b := decide (lb ∈ ys)) (c := decide (lb ∈ taken)) (fun R hR => ?_) (fun R hR => ?_) ?_
      · repeat walk_at "rd"
        exact i_inS h5 ⟨_, rfl, hR⟩
      · repeat walk_at "rd"
        exact i_inS t5 ⟨_, rfl, hR⟩
      have nml : Nm lb := ⟨by omega, by omega, by rw [jl]; exact hcs, by omega, .inl (by omega)⟩
      have nml3 : lb.length ≤ 3 := by omega
      refine i_bor ?_ (fun h1 h2 => ?_)
      · repeat walk_at "rd"
        refine i_lcr ?_
        repeat walk_at "rd"
        refine i_rlcRF (fun i => .str (sp lb i)) (by decide) (by decide) (fun x => rfl) ?_ ?_
        · intro j H6 Q' hj s6 q'
          dsimp only [List.map, wipe, List.set]
          have l1 : ∀ k : Nat, (⟨#[k]⟩ : Str).length = 1 := fun _ => rfl
          have m1 : ((j : Int) % 26) = ((j % 26 : Nat) : Int) := by omega
          have m2 : ((j : Int) / 26) = ((j / 26 : Nat) : Int) := by omega
          repeat walk_at "rd"
          rw [m1]
          refine i_ixS (by rw [abc_len]; decide) (abc_at _ (by omega)) ?_
          repeat walk_at "rd"
          refine i_add_s (sl_of (by rw [l1]; omega)) ?_
          repeat walk_at "rd"
          · rw [m2]
            refine i_ixS (by rw [abc_len]; decide) (abc_at _ (by omega)) ?_
            refine i_add_s (sl_of (by rw [app_len, l1, l1]; omega)) ?_
            exact q' _ (Same.refl _)
          · exact ⟨by decide, by decide⟩
        intro r6 H6 n6 s6 h6
        have e6 : (List.range (100 : Int).toNat).map (fun i => V.str (sp lb i)) = ((List.range 100).map (sp lb)).map V.str := by
          rw [List.map_map]
          rfl
        rw [e6] at h6
        repeat walk_at "rd"
        refine i_lcl ?_
        repeat walk_at "rd"
        refine i_rlcF (sP fun x => !decide (x ∈ ys) && !decide (x ∈ taken)) _root_.id (SqL.of h6) (fun H' s => SqL.of (s _ _ h6)) (by simp) (fun x => rfl) ?_ ?_ ?_
        · intro x H7 R hx s7 hR
          obtain ⟨y, _, rfl⟩ := List.mem_map.mp hx
          dsimp only [List.map, wipe, List.set]
          refine i_andB (b := !decide (y ∈ ys)) (c := !decide (y ∈ taken)) (fun R hR => ?_) (fun R hR => ?_) hR
          · repeat walk_at "rd"
            exact i_niS (s7 _ _ (s6 _ _ h5)) ⟨_, rfl, hR⟩
          · repeat walk_at "rd"
            exact i_niS (s7 _ _ (s6 _ _ t5)) ⟨_, rfl, hR⟩
        · intro x H7 Q' hx hP s7 q'
          dsimp only [List.map, wipe, List.set]
          repeat walk_at "rd"
          exact q' _ (Same.refl _)
        intro r7 H7 n7 s7 h7
        rw [List.map_id, filt_strs] at h7
        obtain ⟨z, zs, ez⟩ : ∃ z zs, ((List.range 100).map (sp lb)).filter (fun x => !decide (x ∈ ys) && !decide (x ∈ taken)) = z :: zs := by
          apply List.exists_cons_of_ne_nil
          intro e0
          have all : ∀ x ∈ (List.range 100).map (sp lb), x ∈ ys ++ taken := by
            intro x hx
            by_cases h : (!decide (x ∈ ys) && !decide (x ∈ taken)) = true
            · have : x ∈ ((List.range 100).map (sp lb)).filter (fun x => !decide (x ∈ ys) && !decide (x ∈ taken)) := List.mem_filter.mpr ⟨hx, h⟩
              rw [e0] at this
              cases this
            · rw [List.mem_append]
              by_cases h1 : x ∈ ys
              · exact .inl h1
              · by_cases h2 : x ∈ taken
                · exact .inr h2
                · exact absurd (by simp [h1, h2]) h
          have := nodup_sub (sp_nodup lb 100) all
          rw [List.length_map, List.length_range, List.length_append] at this
          omega
        have hz1 := List.mem_filter.mp (show z ∈ ((List.range 100).map (sp lb)).filter (fun x => !decide (x ∈ ys) && !decide (x ∈ taken)) by rw [ez]; exact List.mem_cons_self ..)
        rw [ez] at h7
        obtain ⟨j, hj, rfl⟩ := List.mem_map.mp hz1.1
        have hj2 := List.mem_range.mp hj
        have hb := Bool.and_eq_true_iff.mp hz1.2
        have nmz : Nm (sp lb j) := by
          have e := sp_cps lb j
          have le : (sp lb j).length = lb.length + 2 := by
            show (sp lb j).cps.size = _
            rw [← Array.length_toList, e, List.length_append, List.length_append, jl, lbl]
            rfl
          refine ⟨by omega, by omega, fun c hc => ?_, by omega, .inr ⟨97 + j / 26, by rw [e]; simp, by omega⟩⟩
          rw [e, List.mem_append, List.mem_append] at hc
          rcases hc with (hc | hc) | hc
          · exact nml.abc c hc
          · rw [List.mem_singleton] at hc
            omega
          · rw [List.mem_singleton] at hc
            omega
        repeat walk_at "rd"
        refine i_ix_l (v := V.str (sp lb j)) h7 (atI_nat (j := 0) rfl) ?_
        repeat walk_at "rd"
        exact ⟨_, _, _, _, rfl, (kk.same s6).same s7, s7 _ _ (s6 _ _ h5), nmz, by simpa using hb.1, by simpa using hb.2⟩
      · repeat walk_at "rd"
        exact ⟨_, _, _, lb, rfl, kk, h5, nml, h1, h2⟩
    · rintro σ' H6 ⟨w2, w3, w4, z, rfl, k6, h6, nm, z1, z2⟩
      repeat walk_at "rd"
      refine i_tBM ?_
      repeat walk_at "rd"
      refine ⟨ty_lst h6, ?_⟩
      repeat walk_at "rd"
      refine i_append h6 (by rw [List.length_map]; omega) fun H7 n7 k7 h7 => ?_
      repeat walk_at "rd"
      refine ⟨_, _, _, _, _, ys ++ [z], rfl, ?_, ?_, ?_, ?_, ?_⟩
      · refine ⟨fun c o nc e => k7 c o (fun w => by rw [w, nl] at e; cases e) (k6.keep c o nc e), hp, ?_⟩
        obtain ⟨a1, b1, e, ok2⟩ := k6.pot'
        exact ⟨a1, b1, k7 p _ (fun w => np w.symm) e, ok2⟩
      · rw [List.map_append]
        exact h7
      · rw [List.length_append, hy]
        rfl
      · rw [List.nodup_append]
        exact ⟨nd, by simp, fun x hx y hy' e => z1 (by rw [List.mem_singleton] at hy'; rw [← hy', ← e]; exact hx)⟩
      · intro y hy'
        rcases List.mem_append.mp hy' with h | h
        · exact ok y h
        · rw [List.mem_singleton] at h
          rw [h]
          exact ⟨nm, z2⟩
  · rintro σ' H3 ⟨v1, v2, v3, v4, v5, ys, rfl, k3, h3, hy, nd, ok⟩
    repeat walk_at "rd"
    exact q l H3 ys nl k3 h3 hy nd ok
end Lw
namespace Dt
open PySem PySem.Spec PyProof.Rows L2 Ly
end Dt
namespace Lw
open PySem PySem.Spec PyProof.Rows L2 Ly Dt
variable {W : Wd} {a : Ad}
def bNamed (rs : List Rv) (k : Rv → Prop) : Prop := ∃ (n : Int) (tk : List Str), rs = [.pot, .d (.int n), .d (.lst (tk.map D.str))] ∧ 0 ≤ n ∧ n.toNat + tk.length < 100 ∧ ∀ ys : List Str, ys.length = n.toNat → ys.Nodup → (∀ y ∈ ys, Nm y ∧ y ∉ tk) → k (.new (.lst (ys.map D.str)))
theorem kd_law_named (T : Txt W.K W.mg a) : Cl W 2 "_law_named" (spW true bNamed) := by
  refine (k_law_named T).imp fun vs H Q E h => ?_
  obtain ⟨π, X, rs, k, hp, ok, ha, at_, b, q⟩ := h
  obtain ⟨n, tk, rfl, h0, hl, qk⟩ := b
  match vs, at_ with
  | [v1, v2, v3], ⟨a1, a2, a3, _⟩ =>
    obtain ⟨p, hpp, rfl⟩ := a1
    have a2 : At (cut X H) v2 (.int n) := a2
    have a3 : At (cut X H) v3 (.lst (tk.map D.str)) := a3
    obtain ⟨xp, sff⟩ := ok.pot p (.inl hpp); have pot := sff.1 hpp
    cases a2
    cases a3 with
    | lst e t =>
      obtain ⟨nX, e⟩ := of_cut e
      have z := ats_strs t
      subst z
      refine ⟨p, _, n, tk, rfl, pot, fun z => nX (by rw [z]; exact xp), e, h0, hl, fun r H' ys hr dr e' l1 l2 l3 => ?_⟩
      exact q (.ref r) (.new (.lst (ys.map D.str))) H' (Kp.of_dr ok hpp dr) (fun _ z => z) ⟨r, rfl, hr, ys.map V.str, e', strs_at ys⟩ (qk ys l1 l2 l3)
theorem wcb_named {π : Po} {k : Rv → Prop} {E : XK} {r : Rv} {n : Int} {tk : List Str} (hp : π.pot.isSome = true) (hf : fzA [.pot, .d (.int n), r] = some [.pot, .d (.int n), .d (.lst (tk.map D.str))]) (h0 : 0 ≤ n) (hl : n.toNat + tk.length < 100)
    (q : ∀ ys : List Str, ys.length = n.toNat → ys.Nodup → (∀ y ∈ ys, Nm y ∧ y ∉ tk) → k (.new (.lst (ys.map D.str)))) : WCb π (fun vs H Q => spW true bNamed vs H Q E) [.pot, .d (.int n), r] k := wcb_W hp hf ⟨n, tk, rfl, h0, hl, q⟩
theorem wcb_pick {π : Po} {k : Rv → Prop} {E : XK} {r : Rv} {ds : List D} (hp : π.pot.isSome = true) (hf : fzA [.pot, r] = some [.pot, .d (.lst ds)]) (hn : ds ≠ []) (hl : ds.length ≤ 4000) (q : ∀ d, d ∈ ds → k (.d d)) : WCb π (fun vs H Q => spW true bPick vs H Q E) [.pot, r] k := wcb_W hp hf ⟨ds, rfl, hn, hl, q⟩
theorem nm_nmB {x : Str} (h : Nm x) : nmB x = true := by
  unfold nmB
  rw [decide_eq_true h.len, decide_eq_true h.pos, List.all_eq_true.mpr fun c m => (by
    have := h.abc c m
    unfold lowB
    rw [decide_eq_true this.1, decide_eq_true this.2]
    rfl : lowB c = true)]
  rfl
end Lw
namespace Dt
open PySem PySem.Spec PyProof.Rows L2 Ly
theorem w_fmtR {π : Po} {δ : List Rv} {k : Rv → Prop} {ta : TE} (q : Wp π ta δ fun r => ∃ y : Str, r = .d (.str y) ∧ (reprText y).length ≤ 100000 ∧ k (.d (.str (reprText y)))) : Wp π (tFmtR ta) δ k := fun X H σ Q o e h => by
  refine q X H σ _ o e fun v r H1 k1 a w => ?_
  obtain ⟨y, rfl, z, kk⟩ := w
  cases a
  exact i_fmtR_s z (h _ (.d (.str (reprText y))) H1 k1 (At.str _) kk)
/-- the text of a move's repr -/
def mtx (m : M3) : Str := Str.empty ++ "Move(" ++ reprText m.1 ++ ", " ++ reprText m.2.1 ++ ", " ++ reprText m.2.2 ++ ")"
def bReprM (C : Addr) (rs : List Rv) (k : Rv → Prop) : Prop := ∃ m : M3, rs = [.d (mvT C m)] ∧ (reprText m.1).length ≤ 1000 ∧ (reprText m.2.1).length ≤ 1000 ∧ (reprText m.2.2).length ≤ 1000 ∧ k (.d (.str (mtx m)))
end Dt
namespace Lw
open PySem PySem.Spec PyProof.Rows L2 Ly Dt
local macro_rules | `(tactic| walk_at "wk") => `(tactic| first
  | ((with_reducible refine' w_var ?hv ?hn ?_); (case hv => exact rfl); (case hn => (intro z; cases z)))
  | with_reducible refine w_int ?_
  | with_reducible refine w_str ?_
  | with_reducible refine w_op ?_
  | with_reducible refine wa_cons ?_
  | with_reducible refine wa_nil ?_
  | with_reducible refine w_reprL ?_
  | with_reducible refine w_isi2 ?_
  | with_reducible refine w_cb ?_
  | with_reducible refine w_call ?_
  | ((with_reducible refine' ws_retV ?hv ?_); (case hv => exact rfl))
  | with_reducible refine ws_seq ?_
  | with_reducible refine ws_asg ?_
  | with_reducible refine ws_ret ?_
  | with_reducible refine ws_if ?_
  | with_reducible refine ws_next ?_
  | ((with_reducible refine' ws_append ?hv ?hz ?_); (case hv => exact rfl); rotate_left)
  | with_reducible refine ws_drop ?_
  | with_reducible refine ws_retN ?_
  | ((with_reducible refine wg_d ?_); dsimp only [List.set])
  | ((with_reducible refine wg_raw ?_); dsimp only [List.set])
  | ((with_reducible refine wg_E ?_))
  | ((with_reducible refine' we_tup ?hl ?_); (case hl => exact rfl))
  | with_reducible refine wes_cons ?_
  | with_reducible refine wes_nil ?_
  | ((with_reducible refine we_name ?_); dsimp only [List.set])
  | with_reducible refine out_d ?_
  | with_reducible refine out_new ?_
  | with_reducible refine ex_bl ?_
  | with_reducible refine ite_t ?_
  | ((with_reducible refine ex_fzd ?_); dsimp only [List.set, List.nil_append, List.cons_append])
  | ((with_reducible refine ex_fzn ?_); dsimp only [List.set, List.nil_append, List.cons_append])
  | with_reducible refine ite_nt ?_
  | with_reducible refine ite_nf ?_
  | with_reducible refine ite_f ?_
  | with_reducible refine wt_tb ?_
  | with_reducible refine wt_test ?_
  | with_reducible refine wt_and ?_
  | with_reducible refine wt_or ?_
  | with_reducible refine wt_not ?_
  | with_reducible refine w_andV ?_
  | with_reducible refine w_orV ?_
  | with_reducible refine w_notV ?_
  | with_reducible refine w_if ?_
  | with_reducible refine w_bl ?_
  | with_reducible refine w_non ?_
  | with_reducible refine w_ty ?_
  | with_reducible refine w_ref ?_
  | with_reducible refine w_un ?_
  | ((with_reducible refine w_tup ?_); skip)
  | ((with_reducible refine w_lst ?_); skip)
  | ((with_reducible refine' Exists.intro _ (And.intro ?hf (And.intro ?hl ?_))); (case hf => exact rfl); (case hl => exact Nat.le_of_ble_eq_true rfl))
  | with_reducible refine w_fld ?_
  | ((with_reducible refine' fld_of ?ho ?c ?n ?l ?_); (case ho => exact rfl); (case c => assumption); (case n => with_reducible assumption); (case l => exact rfl))
  | with_reducible refine wp_top ?_
  | with_reducible refine wp_bot ?_
  | with_reducible refine w_prop ?_
  | with_reducible refine w_meth ?_
  | with_reducible refine w_smeth ?_
  | with_reducible refine wop_addI ?_
  | with_reducible refine wop_subI ?_
  | ((with_reducible refine' wop_mulI ?c ?_); rotate_left)
  | ((with_reducible refine' wop_fdI ?c ?_); rotate_left)
  | with_reducible refine wop_mdI (by first | decide | assumption) ?_
  | ((with_reducible refine' wop_mdI ?c ?_); rotate_left)
  | ((with_reducible refine' wop_I0 ?e ?_); (case e => exact rfl))
  | ((with_reducible refine' wop_ixT ?e ?_); (case e => exact rfl))
  | ((with_reducible refine' wcb_lenL ?e ?_); (case e => exact rfl))
  | with_reducible refine wcb_lenT ?_
  | ((with_reducible refine' wop_fdX ?c ?_); rotate_left)
  | ((with_reducible refine' wun_U ?e ?_); (case e => exact rfl))
  | with_reducible refine wop_eqI ?_
  | with_reducible refine wop_neI ?_
  | with_reducible refine wop_eqS ?_
  | with_reducible refine wop_neS ?_
  | with_reducible refine wop_isN ?_
  | with_reducible refine wop_notN ?_
  | ((with_reducible refine' wop_inS ?e ?_); (case e => exact rfl))
  | ((with_reducible refine' wop_niS ?e ?_); (case e => exact rfl))
  | with_reducible refine wop_inST ?_
  | with_reducible refine wcb_gcd ?_
  | with_reducible refine wcb_abs ?_
  | with_reducible refine wcb_max2 ?_
  | with_reducible refine wcb_min2 ?_
  | with_reducible refine wcb_int ?_
  | ((with_reducible refine' wcb_isi (b := true) ?ho ?hb ?_); (case ho => exact rfl); (case hb => (dsimp only [tyN]; decide +kernel)))
  | ((with_reducible refine' wcb_isi (b := false) ?ho ?hb ?_); (case ho => exact rfl); (case hb => (dsimp only [tyN]; decide +kernel)))
  | ((with_reducible refine' wcb_listOf ?e ?_); (case e => exact rfl))
  | with_reducible refine wcb_listOfT ?_
  | ((with_reducible refine' wcb_tupOf ?e ?_); (case e => exact rfl))
  | with_reducible refine w_chain ?_
  | with_reducible refine wcb_strS ?_
  | ((with_reducible refine' wcb_lenD ?e ?_); (case e => exact rfl))
  | ((with_reducible refine' wcb_listD ?e ?_); (case e => exact rfl))
  | with_reducible refine w_dnewK ?_
  | with_reducible refine w_dget ?_
  | with_reducible refine w_din ?_
  | with_reducible refine w_dni ?_
  | with_reducible refine w_lenSet ?_
  | with_reducible refine w_listVals ?_
  | with_reducible refine w_chain ?_
  | ((with_reducible refine' wt_yes ?_)))
variable {W : Wd} {a : Ad}
theorem mn_rrepr (T : Txt W.K W.mg a) : MtN W 1 a.Ratio "__repr__" (spW false (bRepr a.Ratio)) := by
  refine mtn_W T.d_Ratio_repr sc_Ratio_repr bd_Ratio_repr (fun rs k ⟨_, h, _⟩ => by rw [h]; rfl) (body_N (n := 1) (l := 0) rfl (fun rs k ⟨_, h, _⟩ => by rw [h]; rfl) fun f cdv A outer s H hr => ⟨_, (pss_one (ps_ret (pe_joined (.cons pe_str (.cons (pe_fmt (pe_fldK (K := W.K) rfl (pv 0) rfl)) (.cons pe_str (.cons (pe_fmt (pe_fldK (K := W.K) rfl (pv 0) rfl)) (.cons pe_str .nil)))))))), fun π rs kr hp hB => ?_⟩)
  obtain ⟨q, rfl, z, h⟩ := hB
  dsimp only [uns, List.replicate, List.cons_append, List.nil_append]
  have cR := T.o_Ratio.cls
  have nT := T.n_Ratio_top
  have nB := T.n_Ratio_bottom
  have l1 := it_len z.1
  have l2 := it_len z.2
  have c0 : Str.empty.length = 0 := by decide
  have c1 : (Str.ofString "Ratio(").length = 6 := by decide
  have c2 : (Str.ofString ", ").length = 2 := by decide
  have c3 : (Str.ofString ")").length = 1 := by decide
  repeat walk_at "wk"
  refine w_joined (wj_cons ?_)
  repeat walk_at "wk"
  refine wj_cons (w_fmtI ?_)
  repeat walk_at "wk"
  refine ⟨_, rfl, z.1, _, rfl, sl_of (by rw [strLen_append, strLen_append]; omega), wj_cons ?_⟩
  repeat walk_at "wk"
  refine ⟨_, rfl, sl_of (by rw [strLen_append, strLen_append, strLen_append]; omega), wj_cons (w_fmtI ?_)⟩
  repeat walk_at "wk"
  refine ⟨_, rfl, z.2, _, rfl, sl_of (by rw [strLen_append, strLen_append, strLen_append, strLen_append]; omega), wj_cons ?_⟩
  repeat walk_at "wk"
  exact ⟨_, rfl, sl_of (by rw [strLen_append, strLen_append, strLen_append, strLen_append, strLen_append]; omega), wj_nil (out_d h)⟩
theorem pn_task (T : Txt W.K W.mg a) : PpN W 1 a.Move "task" (spW false fun rs k => ∃ m, rs = [.d (mvT a.Move m)] ∧ k (.d (.str m.1))) := by
  refine ppn_W T.d_Move_task sc_Move_task bd_Move_task (fun rs k ⟨_, h, _⟩ => by rw [h]; rfl) (body_N (n := 1) (l := 0) rfl (fun rs k ⟨_, h, _⟩ => by rw [h]; rfl) fun f cdv A outer s H hr => ⟨_, (pss_one (ps_ret (pe_ix (r := rIx W.K) ix_U (pe_fldK (K := W.K) rfl (pv 0) rfl) pe_int (fun _ _ => rfl)))), fun π rs kr hp hB => ?_⟩)
  obtain ⟨m, rfl, q⟩ := hB
  dsimp only [uns, List.replicate, List.cons_append, List.nil_append]
  have cM := T.o_Move.cls
  have nN := T.n_Move_names
  unfold mvT mv
  repeat walk_at "wk"
  exact q
theorem pn_start (T : Txt W.K W.mg a) : PpN W 1 a.Move "start" (spW false fun rs k => ∃ m, rs = [.d (mvT a.Move m)] ∧ k (.d (.str m.2.1))) := by
  refine ppn_W T.d_Move_start sc_Move_start bd_Move_start (fun rs k ⟨_, h, _⟩ => by rw [h]; rfl) (body_N (n := 1) (l := 0) rfl (fun rs k ⟨_, h, _⟩ => by rw [h]; rfl) fun f cdv A outer s H hr => ⟨_, (pss_one (ps_ret (pe_ix (r := rIx W.K) ix_U (pe_fldK (K := W.K) rfl (pv 0) rfl) pe_int (fun _ _ => rfl)))), fun π rs kr hp hB => ?_⟩)
  obtain ⟨m, rfl, q⟩ := hB
  dsimp only [uns, List.replicate, List.cons_append, List.nil_append]
  have cM := T.o_Move.cls
  have nN := T.n_Move_names
  unfold mvT mv
  repeat walk_at "wk"
  exact q
theorem pn_goal (T : Txt W.K W.mg a) : PpN W 1 a.Move "goal" (spW false fun rs k => ∃ m, rs = [.d (mvT a.Move m)] ∧ k (.d (.str m.2.2))) := by
  refine ppn_W T.d_Move_goal sc_Move_goal bd_Move_goal (fun rs k ⟨_, h, _⟩ => by rw [h]; rfl) (body_N (n := 1) (l := 0) rfl (fun rs k ⟨_, h, _⟩ => by rw [h]; rfl) fun f cdv A outer s H hr => ⟨_, (pss_one (ps_ret (pe_ix (r := rIx W.K) ix_U (pe_fldK (K := W.K) rfl (pv 0) rfl) pe_int (fun _ _ => rfl)))), fun π rs kr hp hB => ?_⟩)
  obtain ⟨m, rfl, q⟩ := hB
  dsimp only [uns, List.replicate, List.cons_append, List.nil_append]
  have cM := T.o_Move.cls
  have nN := T.n_Move_names
  unfold mvT mv
  repeat walk_at "wk"
  exact q
theorem mn_mrepr (T : Txt W.K W.mg a) : MtN W 3 a.Move "__repr__" (spW false (bReprM a.Move)) := by
  refine mtn_W T.d_Move_repr sc_Move_repr bd_Move_repr (fun rs k ⟨_, h, _⟩ => by rw [h]; rfl) (body_N (n := 1) (l := 0) rfl (fun rs k ⟨_, h, _⟩ => by rw [h]; rfl) fun f cdv A outer s H hr => ⟨_, (pss_one (ps_ret (pe_joined (.cons pe_str (.cons (pe_fmtR (pe_ppN T.o_Move.cls (pn_task T) hr (by decide) (pv 0) rfl)) (.cons pe_str (.cons (pe_fmtR (pe_ppN T.o_Move.cls (pn_start T) hr (by decide) (pv 0) rfl)) (.cons pe_str (.cons (pe_fmtR (pe_ppN T.o_Move.cls (pn_goal T) hr (by decide) (pv 0) rfl)) (.cons pe_str .nil)))))))))), fun π rs kr hp hB => ?_⟩)
  obtain ⟨m, rfl, l1, l2, l3, h⟩ := hB
  dsimp only [uns, List.replicate, List.cons_append, List.nil_append]
  have cM := T.o_Move.cls
  have c0 : Str.empty.length = 0 := by decide
  have c1 : (Str.ofString "Move(").length = 5 := by decide
  have c2 : (Str.ofString ", ").length = 2 := by decide
  have c3 : (Str.ofString ")").length = 1 := by decide
  repeat walk_at "wk"
  refine w_joined (wj_cons ?_)
  repeat walk_at "wk"
  refine wj_cons (w_fmtR ?_)
  repeat walk_at "wk"
  refine ⟨⟨_, rfl⟩, wcb_W0 (rs := [.d (mvT a.Move m)]) rfl rfl ⟨m, rfl, fun z => (by cases z), m.1, rfl, by omega, _, rfl, sl_of (by simp only [strLen_append]; omega), wj_cons ?_⟩⟩
  repeat walk_at "wk"
  refine ⟨_, rfl, sl_of (by simp only [strLen_append]; omega), wj_cons (w_fmtR ?_)⟩
  repeat walk_at "wk"
  refine ⟨⟨_, rfl⟩, wcb_W0 (rs := [.d (mvT a.Move m)]) rfl rfl ⟨m, rfl, fun z => (by cases z), m.2.1, rfl, by omega, _, rfl, sl_of (by simp only [strLen_append]; omega), wj_cons ?_⟩⟩
  repeat walk_at "wk"
  refine ⟨_, rfl, sl_of (by simp only [strLen_append]; omega), wj_cons (w_fmtR ?_)⟩
  repeat walk_at "wk"
  refine ⟨⟨_, rfl⟩, wcb_W0 (rs := [.d (mvT a.Move m)]) rfl rfl ⟨m, rfl, fun z => (by cases z), m.2.2, rfl, by omega, _, rfl, sl_of (by simp only [strLen_append]; omega), wj_cons ?_⟩⟩
  repeat walk_at "wk"
  exact ⟨_, rfl, sl_of (by simp only [strLen_append]; omega), wj_nil (out_d h)⟩
/-- which text is the repr of a value: plain, a Ratio or a Move -/
inductive RtX (R M : Addr) : D → Str → Prop
  | pl {x : D} {t : Str} (h : Rtx x t) : RtX R M x t
  | rat {q : Rat} (h : SzQ 1900 q) : RtX R M (ratQ R q) (rtx q)
  | mov {m : M3} (h1 : (reprText m.1).length ≤ 1000) (h2 : (reprText m.2.1).length ≤ 1000) (h3 : (reprText m.2.2).length ≤ 1000) : RtX R M (mvT M m) (mtx m)
/-- repr of a value: plain, a Ratio or a Move -/
def rRepX (K : PySem.W.Frag) (R M : Addr) : List V → Hp → VK → Prop := fun xs H Q => rReprP K xs H Q ∨ rSOwn R (spW false (bRepr R)) xs H Q ∨ rSOwn M (spW false (bReprM M)) xs H Q
theorem call_repX {X : Cx} {a : Ad} {j : Nat} (T : Txt X.K X.mg a) (hr : RoomN j X.A) (hj : 5 ≤ j) (hgd : X.A.guards = some []) : CallR X (.builtin "repr") (rRepX X.K a.Ratio a.Move) :=
  call_or (call_reprP hr hgd) (call_or (call_reprN (mn_rrepr (W := ⟨X.prog, X.w, X.K, X.mg, X.base⟩) T) hr (by omega)) (call_reprN (mn_mrepr (W := ⟨X.prog, X.w, X.K, X.mg, X.base⟩) T) hr (by omega)))
theorem wcb_sO {π : Po} {k : Rv → Prop} {C : Addr} {B : List Rv → (Rv → Prop) → Prop} {a : Rv} {fs : List (Str × D)} {t : Str} (hf : fzA [a] = some [.d (.obj C fs)]) (hB : B [.d (.obj C fs)] fun r => r = .d (.str t)) (q : k (.d (.str t))) : WCb π (rSOwn C (spW false B)) [a] k := fun X H0 H xs Q o0 o k0 ra h => by
  match xs, ra with
  | [x], ⟨ra, _⟩ =>
    have aa := RAts.fzA (as := [a]) (vs := [x]) o0 ⟨ra, trivial⟩ hf
    obtain ⟨a1, _⟩ := aa
    have a1' := a1
    cases a1 with
    | obj e e2 tt =>
      refine ⟨_, _, _, rfl, (of_cut e).2, ?_⟩
      have hB2 : B [.d (.obj C fs)] fun r => r ≠ Rv.pot ∧ r = .d (.str t) := by
        have e : ∀ t, (fun r => r ≠ Rv.pot ∧ r = Rv.d (.str t)) = fun r => r = .d (.str t) := fun t => by
          funext r
          exact propext ⟨fun z => z.2, fun z => ⟨(by rw [z]; exact fun z => (by cases z)), z⟩⟩
        rw [e]
        exact hB
      refine wcb_W0 (k := fun r => r = .d (.str t)) (as := [.d (.obj C fs)]) rfl rfl hB2 X H0 H _ _ o0 o k0 ⟨a1', trivial⟩ fun v z H' k1 az kz => ?_
      subst kz
      cases az
      exact ⟨⟨_, rfl⟩, h _ (.d (.str _)) H' k1 (At.str _) q⟩
theorem wcb_repX {π : Po} {K : PySem.W.Frag} {R M : Addr} {k : Rv → Prop} {x : D} {t : Str} (h : RtX R M x t) (q : k (.d (.str t))) : WCb π (rRepX K R M) [.d x] k := by
  cases h with
  | pl h => exact fun X H0 H xs Q o0 o k0 ra hQ => .inl (wcb_rtx h q X H0 H xs Q o0 o k0 ra hQ)
  | rat h => exact fun X H0 H xs Q o0 o k0 ra hQ => .inr (.inl (wcb_sO rfl ⟨_, rfl, h, rfl⟩ q X H0 H xs Q o0 o k0 ra hQ))
  | mov h1 h2 h3 => exact fun X H0 H xs Q o0 o k0 ra hQ => .inr (.inr (wcb_sO rfl ⟨_, rfl, h1, h2, h3, rfl⟩ q X H0 H xs Q o0 o k0 ra hQ))
end Lw
namespace Dt
open PySem PySem.Spec PyProof.Rows L2 Ly
/-- no number, no own object -/
inductive NoNum : D → Prop
  | bl {b : Bool} : NoNum (.bl b)
  | non : NoNum .non
  | str {s : Str} : NoNum (.str s)
  | lst {ds : List D} : NoNum (.lst ds)
  | tup {ds : List D} : NoNum (.tup ds)
  | dct {kd : List (Key × D)} : NoNum (.dct kd)
/-- an amount that is none -/
inductive AmtX (R M : Addr) : D → Prop
  | num {x : D} {q : Rat} (h : NumQ R x q) (h0 : q.num ≤ 0) (hz : Sz 4000 q.num) : AmtX R M x
  | pl {x : D} (h : NoNum x) : AmtX R M x
  | mov (m : M3) : AmtX R M (mvT M m)
end Dt
namespace Lw
open PySem PySem.Spec PyProof.Rows L2 Ly Dt
local macro_rules | `(tactic| walk_at "wk") => `(tactic| first
  | ((with_reducible refine' w_var ?hv ?hn ?_); (case hv => exact rfl); (case hn => (intro z; cases z)))
  | with_reducible refine w_int ?_
  | with_reducible refine w_str ?_
  | with_reducible refine w_op ?_
  | with_reducible refine wa_cons ?_
  | with_reducible refine wa_nil ?_
  | with_reducible refine w_reprL ?_
  | with_reducible refine w_isi2 ?_
  | with_reducible refine w_cb ?_
  | with_reducible refine w_call ?_
  | ((with_reducible refine' ws_retV ?hv ?_); (case hv => exact rfl))
  | with_reducible refine ws_seq ?_
  | with_reducible refine ws_asg ?_
  | with_reducible refine ws_ret ?_
  | with_reducible refine ws_if ?_
  | with_reducible refine ws_next ?_
  | ((with_reducible refine' ws_append ?hv ?hz ?_); (case hv => exact rfl); rotate_left)
  | with_reducible refine ws_drop ?_
  | with_reducible refine ws_retN ?_
  | ((with_reducible refine wg_d ?_); dsimp only [List.set])
  | ((with_reducible refine wg_raw ?_); dsimp only [List.set])
  | ((with_reducible refine wg_E ?_))
  | ((with_reducible refine' we_tup ?hl ?_); (case hl => exact rfl))
  | with_reducible refine wes_cons ?_
  | with_reducible refine wes_nil ?_
  | ((with_reducible refine we_name ?_); dsimp only [List.set])
  | with_reducible refine out_d ?_
  | with_reducible refine out_new ?_
  | with_reducible refine ex_bl ?_
  | with_reducible refine ite_t ?_
  | ((with_reducible refine ex_fzd ?_); dsimp only [List.set, List.nil_append, List.cons_append])
  | ((with_reducible refine ex_fzn ?_); dsimp only [List.set, List.nil_append, List.cons_append])
  | with_reducible refine ite_nt ?_
  | with_reducible refine ite_nf ?_
  | with_reducible refine ite_f ?_
  | with_reducible refine wt_tb ?_
  | with_reducible refine wt_test ?_
  | with_reducible refine wt_and ?_
  | with_reducible refine wt_or ?_
  | with_reducible refine wt_not ?_
  | with_reducible refine w_andV ?_
  | with_reducible refine w_orV ?_
  | with_reducible refine w_notV ?_
  | with_reducible refine w_if ?_
  | with_reducible refine w_bl ?_
  | with_reducible refine w_non ?_
  | with_reducible refine w_ty ?_
  | with_reducible refine w_ref ?_
  | with_reducible refine w_un ?_
  | ((with_reducible refine w_tup ?_); skip)
  | ((with_reducible refine w_lst ?_); skip)
  | ((with_reducible refine' Exists.intro _ (And.intro ?hf (And.intro ?hl ?_))); (case hf => exact rfl); (case hl => exact Nat.le_of_ble_eq_true rfl))
  | with_reducible refine w_fld ?_
  | ((with_reducible refine' fld_of ?ho ?c ?n ?l ?_); (case ho => exact rfl); (case c => assumption); (case n => with_reducible assumption); (case l => exact rfl))
  | with_reducible refine wp_top ?_
  | with_reducible refine wp_bot ?_
  | with_reducible refine w_prop ?_
  | with_reducible refine w_meth ?_
  | with_reducible refine w_smeth ?_
  | with_reducible refine wop_addI ?_
  | with_reducible refine wop_subI ?_
  | ((with_reducible refine' wop_mulI ?c ?_); rotate_left)
  | ((with_reducible refine' wop_fdI ?c ?_); rotate_left)
  | with_reducible refine wop_mdI (by first | decide | assumption) ?_
  | ((with_reducible refine' wop_mdI ?c ?_); rotate_left)
  | ((with_reducible refine' wop_I0 ?e ?_); (case e => exact rfl))
  | ((with_reducible refine' wop_ixT ?e ?_); (case e => exact rfl))
  | ((with_reducible refine' wcb_lenL ?e ?_); (case e => exact rfl))
  | with_reducible refine wcb_lenT ?_
  | ((with_reducible refine' wop_fdX ?c ?_); rotate_left)
  | ((with_reducible refine' wun_U ?e ?_); (case e => exact rfl))
  | with_reducible refine wop_eqI ?_
  | with_reducible refine wop_neI ?_
  | with_reducible refine wop_eqS ?_
  | with_reducible refine wop_neS ?_
  | with_reducible refine wop_isN ?_
  | with_reducible refine wop_notN ?_
  | ((with_reducible refine' wop_inS ?e ?_); (case e => exact rfl))
  | ((with_reducible refine' wop_niS ?e ?_); (case e => exact rfl))
  | with_reducible refine wop_inST ?_
  | with_reducible refine wcb_gcd ?_
  | with_reducible refine wcb_abs ?_
  | with_reducible refine wcb_max2 ?_
  | with_reducible refine wcb_min2 ?_
  | with_reducible refine wcb_int ?_
  | ((with_reducible refine' wcb_isi (b := true) ?ho ?hb ?_); (case ho => exact rfl); (case hb => (dsimp only [tyN]; decide +kernel)))
  | ((with_reducible refine' wcb_isi (b := false) ?ho ?hb ?_); (case ho => exact rfl); (case hb => (dsimp only [tyN]; decide +kernel)))
  | ((with_reducible refine' wcb_listOf ?e ?_); (case e => exact rfl))
  | with_reducible refine wcb_listOfT ?_
  | ((with_reducible refine' wcb_tupOf ?e ?_); (case e => exact rfl))
  | with_reducible refine w_chain ?_
  | with_reducible refine wcb_strS ?_
  | ((with_reducible refine' wcb_lenD ?e ?_); (case e => exact rfl))
  | ((with_reducible refine' wcb_listD ?e ?_); (case e => exact rfl))
  | with_reducible refine w_dnewK ?_
  | with_reducible refine w_dget ?_
  | with_reducible refine w_din ?_
  | with_reducible refine w_dni ?_
  | with_reducible refine w_lenSet ?_
  | with_reducible refine w_listVals ?_
  | with_reducible refine w_chain ?_
  | ((with_reducible refine' wt_yes ?_)))
variable {W : Wd} {a : Ad}
theorem k_is_integerO (T : Txt W.K W.mg a) : Cl W 1 "is_integer" (spW false fun rs k => ∃ m, rs = [.d (mvT a.Move m)] ∧ k (.d (.bl false))) := by
  refine cl_W T.d_is_integer sc_is_integer bd_is_integer (fun rs k ⟨_, h, _⟩ => by rw [h]; rfl) (body_W (n := 1) (m := 0) rfl (fun rs k ⟨_, h, _⟩ => by rw [h]; rfl) fun f cdv A outer s H E hr => ⟨_, (pss_one (ps_ret (pe_and (pe_callB (r := rIsi W.K) call_isi (by rfl) T.b_isinstance (by decide +kernel) (pa_cons (pv 0) (pa_cons (pe_bltn (by rfl) T.b_int (by decide +kernel) (v := .ty "int") rfl) pa_nil))) (pe_one (pe_not (pe_callB (r := rIsi W.K) call_isi (by rfl) T.b_isinstance (by decide +kernel) (pa_cons (pv 0) (pa_cons (pe_bltn (by rfl) T.b_bool (by decide +kernel) (v := .ty "bool") rfl) pa_nil)))))))), fun π rs kr hp hB => ?_⟩)
  obtain ⟨m, rfl, q⟩ := hB
  dsimp only [uns, List.replicate, List.cons_append, List.nil_append]
  unfold mvT mv
  repeat walk_at "wk"
  refine wcb_isiB T.o_Move (by decide +kernel) T.o_Move.sI' ?_
  repeat walk_at "wk"
  exact q
theorem k_is_countO (T : Txt W.K W.mg a) : Cl W 2 "is_count" (spW false fun rs k => ∃ m, rs = [.d (mvT a.Move m)] ∧ k (.d (.bl false))) := by
  refine cl_W T.d_is_count sc_is_count bd_is_count (fun rs k ⟨_, h, _⟩ => by rw [h]; rfl) (body_W (n := 1) (m := 0) rfl (fun rs k ⟨_, h, _⟩ => by rw [h]; rfl) fun f cdv A outer s H E hr => ⟨_, (pss_one (ps_ret (pe_and (pe_cl (k_is_integerO T) hr (by decide) rfl (pa_cons (pv 0) pa_nil)) (pe_one (pe_cmpR op_ge (pv 0) pe_int (nomark _)))))), fun π rs kr hp hB => ?_⟩)
  obtain ⟨m, rfl, q⟩ := hB
  dsimp only [uns, List.replicate, List.cons_append, List.nil_append]
  repeat walk_at "wk"
  refine wcb_W0 (rs := [.d (mvT a.Move m)]) rfl rfl ⟨m, rfl, fun z => (by cases z), ?_⟩
  repeat walk_at "wk"
  exact q
def bAmount (R M : Addr) (rs : List Rv) (k : Rv → Prop) : Prop := (∃ d q, rs = [.d d] ∧ NumQ R d q ∧ k (.d (.bl (decide (0 ≤ q.num))))) ∨ (∃ x, rs = [.d x] ∧ NoNum x ∧ k (.d (.bl false))) ∨ ∃ m, rs = [.d (mvT M m)] ∧ k (.d (.bl false))
theorem k_is_amountU (T : Txt W.K W.mg a) : Cl W 3 "is_amount" (spW false (bAmount a.Ratio a.Move)) := by
  have hB : ∀ rs k, bAmount a.Ratio a.Move rs k → rs.length = 1 := fun rs k h => by
    rcases h with ⟨_, _, h, _⟩ | ⟨_, h, _⟩ | ⟨_, h, _⟩ <;> (rw [h]; rfl)
  refine cl_W T.d_is_amount sc_is_amount bd_is_amount hB (body_or (B1 := fun rs k => (∃ d q, rs = [.d d] ∧ NumQ a.Ratio d q ∧ k (.d (.bl (decide (0 ≤ q.num))))) ∨ ∃ x, rs = [.d x] ∧ NoNum x ∧ k (.d (.bl false))) (B2 := fun rs k => ∃ m, rs = [.d (mvT a.Move m)] ∧ k (.d (.bl false))) (fun rs k h => ?_) ?_ ?_)
  · rcases h with h | h | h
    · exact .inl (.inl h)
    · exact .inl (.inr h)
    · exact .inr h
  · refine body_W (n := 1) (m := 0) rfl (fun rs k h => by rcases h with ⟨_, _, h, _⟩ | ⟨_, h, _⟩ <;> (rw [h]; rfl)) fun f cdv A outer s H E hr => ⟨_, (pss_cons (ps_if (pt_val (pe_callB (r := rIsi W.K) call_isi (by rfl) T.b_isinstance (by decide +kernel) (pa_cons (pv 0) (pa_cons (pe_gn (v := .ref a.Ratio) (by rfl) T.o_Ratio.mg rfl) pa_nil)))) (pss_one (ps_ret (pe_cmpR op_ge (pe_fldK (K := W.K) rfl (pv 0) rfl) pe_int (nomark _)))) pss_nil) (pss_one (ps_ret (pe_cl (k_is_count T) hr (by decide) rfl (pa_cons (pv 0) pa_nil))))), fun π rs kr hp hB => ?_⟩
    have cR := T.o_Ratio.cls
    have nT := T.n_Ratio_top
    rcases hB with ⟨d, p, rfl, n, q⟩ | ⟨x, rfl, n, q⟩
    · dsimp only [uns, List.replicate, List.cons_append, List.nil_append]
      cases n with
      | int i =>
        repeat walk_at "wk"
        refine wcb_isiC rfl T.o_Ratio.kI ?_
        repeat walk_at "wk"
        refine wcb_kind rfl ?_
        dsimp only [isCnt]
        repeat walk_at "wk"
        exact q
      | rat p =>
        repeat walk_at "wk"
        refine wcb_isiO T.o_Ratio ?_
        repeat walk_at "wk"
        exact q
    · dsimp only [uns, List.replicate, List.cons_append, List.nil_append]
      repeat walk_at "wk"
      refine wcb_isiC (by cases n <;> rfl) (by cases n <;> first | exact T.k_bool_Ratio | exact T.k_NoneType_Ratio | exact T.k_str_Ratio | exact T.k_list_Ratio | exact T.k_tuple_Ratio | exact T.k_dict_Ratio) ?_
      repeat walk_at "wk"
      refine wcb_kind (by cases n <;> rfl) ?_
      rw [show isCnt x = false by cases n <;> rfl]
      repeat walk_at "wk"
      exact q
  · refine body_W (n := 1) (m := 0) rfl (fun rs k ⟨_, h, _⟩ => by rw [h]; rfl) fun f cdv A outer s H E hr => ⟨_, (pss_cons (ps_if (pt_val (pe_callB (r := rIsi W.K) call_isi (by rfl) T.b_isinstance (by decide +kernel) (pa_cons (pv 0) (pa_cons (pe_gn (v := .ref a.Ratio) (by rfl) T.o_Ratio.mg rfl) pa_nil)))) (pss_one (ps_ret (pe_cmpR op_ge (pe_fldK (K := W.K) rfl (pv 0) rfl) pe_int (nomark _)))) pss_nil) (pss_one (ps_ret (pe_cl (k_is_countO T) hr (by decide) rfl (pa_cons (pv 0) pa_nil))))), fun π rs kr hp hB => ?_⟩
    obtain ⟨m, rfl, q⟩ := hB
    dsimp only [uns, List.replicate, List.cons_append, List.nil_append]
    repeat walk_at "wk"
    refine wcb_isiOO T.o_Move T.z_Move_Ratio ?_
    repeat walk_at "wk"
    refine wcb_W0 (rs := [.d (mvT a.Move m)]) rfl rfl ⟨m, rfl, fun z => (by cases z), ?_⟩
    exact out_d q
/-- what check_gift_amount raises -/
theorem k_check_gift_amountX (T : Txt W.K W.mg a) : Clx W 5 "check_gift_amount" (spX false fun rs kx => ∃ x, rs = [.d x] ∧ AmtX a.Ratio a.Move x ∧ kx a.InvalidNumber [("value", x)]) := by
  refine clx_of T.d_check_gift_amount sc_check_gift_amount bd_check_gift_amount (len_X (n := 1) fun rs k ⟨_, h, _⟩ => by rw [h]; rfl) (body_X (n := 1) (m := 0) rfl (fun rs k ⟨_, h, _⟩ => by rw [h]; rfl) fun f cdv A outer s H E hr => ⟨_, (pss_one (ps_if (PW.pt (pw_or (pt_not (pt_val (pe_cl (k_is_amountU T) hr (by decide) rfl (pa_cons (pv 0) pa_nil)))) (pw_or1 (pt_cmpR (r := rEqU W.K) (op_eqU hr.units) (pe_pp T.o_Ratio.cls (pp_top T) hr (by decide) (pe_sm (sm_of T) hr (by decide) (pe_gn (v := .ref a.Ratio) (by rfl) T.o_Ratio.mg rfl) (pa_cons (pv 0) pa_nil)) rfl) pe_int (nomark _))))) (pss_one (ps_raise1 rfl takes_x rfl T.t_InvalidNumber (mx_InvalidNumber T) hr (by decide) rfl (pa_cons (pv 0) pa_nil))) pss_nil)), fun π rs kx hp hB => ?_⟩)
  obtain ⟨x, rfl, n, q⟩ := hB
  dsimp only [uns, List.replicate, List.cons_append, List.nil_append]
  have cR := T.o_Ratio.cls
  repeat walk_at "wk"
  cases n with
  | num h h0 hz =>
    rename_i p
    refine wcb_W0 (rs := [.d x]) rfl rfl (.inl ⟨x, p, rfl, h, fun z => (by cases z), ?_⟩)
    by_cases h1 : 0 ≤ p.num
    · rw [decide_eq_true h1]
      repeat walk_at "wk"
      refine wcb_of h hz (wp_top ?_)
      repeat walk_at "wk"
      rw [decide_eq_true (by omega)]
      repeat walk_at "wk"
      refine ws_raise1 rfl rfl ?_
      repeat walk_at "wk"
      exact ⟨_, x, rfl, rfl, q⟩
    · rw [decide_eq_false h1]
      repeat walk_at "wk"
      refine ws_raise1 rfl rfl ?_
      repeat walk_at "wk"
      exact ⟨_, x, rfl, rfl, q⟩
  | pl h =>
    refine wcb_W0 (rs := [.d x]) rfl rfl (.inr (.inl ⟨x, rfl, h, fun z => (by cases z), ?_⟩))
    repeat walk_at "wk"
    refine ws_raise1 rfl rfl ?_
    repeat walk_at "wk"
    exact ⟨_, x, rfl, rfl, q⟩
  | mov m =>
    refine wcb_W0 (rs := [.d (mvT a.Move m)]) rfl rfl (.inr (.inr ⟨m, rfl, fun z => (by cases z), ?_⟩))
    repeat walk_at "wk"
    refine ws_raise1 rfl rfl ?_
    repeat walk_at "wk"
    exact ⟨_, mvT a.Move m, rfl, rfl, q⟩
end Lw
namespace Lw
open PySem PySem.Spec PyProof.Rows L2 Ly Dt
local macro_rules | `(tactic| walk_at "wk") => `(tactic| first
  | ((with_reducible refine' w_var ?hv ?hn ?_); (case hv => exact rfl); (case hn => (intro z; cases z)))
  | with_reducible refine w_int ?_
  | with_reducible refine w_str ?_
  | with_reducible refine w_op ?_
  | with_reducible refine wa_cons ?_
  | with_reducible refine wa_nil ?_
  | with_reducible refine w_reprL ?_
  | with_reducible refine w_isi2 ?_
  | with_reducible refine w_cb ?_
  | with_reducible refine w_call ?_
  | ((with_reducible refine' ws_retV ?hv ?_); (case hv => exact rfl))
  | with_reducible refine ws_seq ?_
  | with_reducible refine ws_asg ?_
  | with_reducible refine ws_ret ?_
  | with_reducible refine ws_if ?_
  | with_reducible refine ws_next ?_
  | ((with_reducible refine' ws_append ?hv ?hz ?_); (case hv => exact rfl); rotate_left)
  | with_reducible refine ws_drop ?_
  | with_reducible refine ws_retN ?_
  | ((with_reducible refine wg_d ?_); dsimp only [List.set])
  | ((with_reducible refine wg_raw ?_); dsimp only [List.set])
  | ((with_reducible refine wg_E ?_))
  | ((with_reducible refine' we_tup ?hl ?_); (case hl => exact rfl))
  | with_reducible refine wes_cons ?_
  | with_reducible refine wes_nil ?_
  | ((with_reducible refine we_name ?_); dsimp only [List.set])
  | with_reducible refine out_d ?_
  | with_reducible refine out_new ?_
  | with_reducible refine ex_bl ?_
  | with_reducible refine ite_t ?_
  | ((with_reducible refine ex_fzd ?_); dsimp only [List.set, List.nil_append, List.cons_append])
  | ((with_reducible refine ex_fzn ?_); dsimp only [List.set, List.nil_append, List.cons_append])
  | with_reducible refine ite_nt ?_
  | with_reducible refine ite_nf ?_
  | with_reducible refine ite_f ?_
  | with_reducible refine wt_tb ?_
  | with_reducible refine wt_test ?_
  | with_reducible refine wt_and ?_
  | with_reducible refine wt_or ?_
  | with_reducible refine wt_not ?_
  | with_reducible refine w_andV ?_
  | with_reducible refine w_orV ?_
  | with_reducible refine w_notV ?_
  | with_reducible refine w_if ?_
  | with_reducible refine w_bl ?_
  | with_reducible refine w_non ?_
  | with_reducible refine w_ty ?_
  | with_reducible refine w_ref ?_
  | with_reducible refine w_un ?_
  | ((with_reducible refine w_tup ?_); skip)
  | ((with_reducible refine w_lst ?_); skip)
  | ((with_reducible refine' Exists.intro _ (And.intro ?hf (And.intro ?hl ?_))); (case hf => exact rfl); (case hl => exact Nat.le_of_ble_eq_true rfl))
  | with_reducible refine w_fld ?_
  | ((with_reducible refine' fld_of ?ho ?c ?n ?l ?_); (case ho => exact rfl); (case c => assumption); (case n => with_reducible assumption); (case l => exact rfl))
  | with_reducible refine wp_top ?_
  | with_reducible refine wp_bot ?_
  | with_reducible refine w_prop ?_
  | with_reducible refine w_meth ?_
  | with_reducible refine w_smeth ?_
  | with_reducible refine wop_addI ?_
  | with_reducible refine wop_subI ?_
  | ((with_reducible refine' wop_mulI ?c ?_); rotate_left)
  | ((with_reducible refine' wop_fdI ?c ?_); rotate_left)
  | with_reducible refine wop_mdI (by first | decide | assumption) ?_
  | ((with_reducible refine' wop_mdI ?c ?_); rotate_left)
  | ((with_reducible refine' wop_I0 ?e ?_); (case e => exact rfl))
  | ((with_reducible refine' wop_ixT ?e ?_); (case e => exact rfl))
  | ((with_reducible refine' wcb_lenL ?e ?_); (case e => exact rfl))
  | with_reducible refine wcb_lenT ?_
  | ((with_reducible refine' wop_fdX ?c ?_); rotate_left)
  | ((with_reducible refine' wun_U ?e ?_); (case e => exact rfl))
  | with_reducible refine wop_eqI ?_
  | with_reducible refine wop_neI ?_
  | with_reducible refine wop_eqS ?_
  | with_reducible refine wop_neS ?_
  | with_reducible refine wop_isN ?_
  | with_reducible refine wop_notN ?_
  | ((with_reducible refine' wop_inS ?e ?_); (case e => exact rfl))
  | ((with_reducible refine' wop_niS ?e ?_); (case e => exact rfl))
  | with_reducible refine wop_inST ?_
  | with_reducible refine wcb_gcd ?_
  | with_reducible refine wcb_abs ?_
  | with_reducible refine wcb_max2 ?_
  | with_reducible refine wcb_min2 ?_
  | with_reducible refine wcb_int ?_
  | ((with_reducible refine' wcb_isi (b := true) ?ho ?hb ?_); (case ho => exact rfl); (case hb => (dsimp only [tyN]; decide +kernel)))
  | ((with_reducible refine' wcb_isi (b := false) ?ho ?hb ?_); (case ho => exact rfl); (case hb => (dsimp only [tyN]; decide +kernel)))
  | ((with_reducible refine' wcb_listOf ?e ?_); (case e => exact rfl))
  | with_reducible refine wcb_listOfT ?_
  | ((with_reducible refine' wcb_tupOf ?e ?_); (case e => exact rfl))
  | with_reducible refine w_chain ?_
  | with_reducible refine wcb_strS ?_
  | ((with_reducible refine' wcb_lenD ?e ?_); (case e => exact rfl))
  | ((with_reducible refine' wcb_listD ?e ?_); (case e => exact rfl))
  | with_reducible refine w_dnewK ?_
  | with_reducible refine w_dget ?_
  | with_reducible refine w_din ?_
  | with_reducible refine w_dni ?_
  | with_reducible refine w_lenSet ?_
  | with_reducible refine w_listVals ?_
  | with_reducible refine w_chain ?_
  | ((with_reducible refine' wt_yes ?_)))
variable {W : Wd} {a : Ad}
/-- what it raises -/
def bMoveX (R I : Addr) (rs : List Rv) (kx : Kx) : Prop := ∃ t s g x : D, rs = [.d t, .d s, .d g] ∧ Nd R t ∧ Nd R s ∧ Nd R g ∧ mvBad t s g = some x ∧ kx I [("value", x)]
theorem b_MoveX (T : Txt W.K W.mg a) : BodyX W 2 N_Move_init "Move.__init__" s_Move_init (spIX a.Move false (bMoveX a.Ratio a.InvalidName)) := by
  intro f cdv A outer s H vs Q E hr h
  refine ⟨_, (pss_cons (ps_for (passes_of rfl) rfl (pi_tupK (K := W.K) rfl (pe_tup (pa_cons (pv 1) (pa_cons (pv 2) (pa_cons (pv 3) pa_nil))))) (pg_name (i := 4) sc_Move_init.nd rfl (Or.inl rfl)) (pss_one (ps_if (pt_not (pt_val (pe_cl (k_is_nameA T) hr (by decide) rfl (pa_cons (pv 4) pa_nil)))) (pss_one (ps_raise1 rfl takes_x rfl T.t_InvalidName (mx_InvalidName T) hr (by decide) rfl (pa_cons (pv 4) pa_nil))) pss_nil))) (pss_cons (ps_if (pt_cmpR (r := rEqU W.K) (op_eqU hr.units) (pv 3) (pv 2) (nomark _)) (pss_one (ps_raise1 rfl takes_x rfl T.t_InvalidName (mx_InvalidName T) hr (by decide) rfl (pa_cons (pv 3) pa_nil))) pss_nil) (pss_one (ps_fldK (K := W.K) rfl (pv 0) (pe_tup (pa_cons (pv 1) (pa_cons (pv 2) (pa_cons (pv 3) pa_nil)))) rfl)))), run_initX (n := 3) (m := 1) rfl (fun rs k ⟨_, _, _, _, h, _⟩ => by rw [h]; rfl) (fun π rs kx y hp hB => ?_) h⟩
  obtain ⟨t, s, g, x, rfl, h1, h2, h3, hb, q⟩ := hB
  dsimp only [uns, List.replicate, List.cons_append, List.nil_append]
  repeat walk_at "wk"
  refine ws_for (wi_tup ?_)
  repeat walk_at "wk"
  refine ⟨_, rfl, fun i δ => (∃ r : Rv, δ = [.own y (.obj a.Move []), .d t, .d s, .d g, r]) ∧ (0 < i → nmD t = true) ∧ (1 < i → nmD s = true) ∧ (2 < i → nmD g = true), ⟨⟨_, rfl⟩, fun z => absurd z (by omega), fun z => absurd z (by omega), fun z => absurd z (by omega)⟩, fun i d δ' hd hI => ?_, fun δ' hI => ?_⟩
  · obtain ⟨⟨r, rfl⟩, i1, i2, i3⟩ := hI
    have hn : Nd a.Ratio d := by
      have m := List.mem_of_getElem? hd
      simp only [List.mem_cons, List.not_mem_nil, or_false] at m
      rcases m with rfl | rfl | rfl
      · exact h1
      · exact h2
      · exact h3
    refine we_name ?_
    dsimp only [List.set]
    repeat walk_at "wk"
    refine wcb_W0 (rs := [.d d]) rfl rfl ⟨d, rfl, hn, fun z => (by cases z), ?_⟩
    cases hb2 : nmD d with
    | true =>
      repeat walk_at "wk"
      refine ⟨⟨_, rfl⟩, ?_⟩
      match i, hd with
      | 0, hd => cases hd; exact ⟨fun _ => hb2, fun z => absurd z (by omega), fun z => absurd z (by omega)⟩
      | 1, hd => cases hd; exact ⟨fun _ => i1 (by omega), fun _ => hb2, fun z => absurd z (by omega)⟩
      | 2, hd => cases hd; exact ⟨fun _ => i1 (by omega), fun _ => i2 (by omega), fun _ => hb2⟩
    | false =>
      repeat walk_at "wk"
      refine ws_raise1 rfl rfl ?_
      repeat walk_at "wk"
      refine ⟨_, d, rfl, rfl, ?_⟩
      have e : x = d := by
        unfold mvBad at hb
        match i, hd with
        | 0, hd => cases hd; rw [if_pos hb2] at hb; cases hb; rfl
        | 1, hd => cases hd; rw [i1 (by omega), if_neg (by decide), if_pos hb2] at hb; cases hb; rfl
        | 2, hd => cases hd; rw [i1 (by omega), if_neg (by decide), i2 (by omega), if_neg (by decide), if_pos hb2] at hb; cases hb; rfl
      rw [← e]
      exact q
  · obtain ⟨⟨r, rfl⟩, i1, i2, i3⟩ := hI
    have j1 := i1 (show 0 < 3 by omega)
    have j2 := i2 (show 1 < 3 by omega)
    have j3 := i3 (show 2 < 3 by omega)
    unfold mvBad at hb
    rw [j1, if_neg (by decide), j2, if_neg (by decide), j3, if_neg (by decide)] at hb
    cases g with
    | str g =>
      cases s with
      | str s =>
        dsimp only at hb
        by_cases e : g = s
        · rw [if_pos e] at hb
          cases hb
          repeat walk_at "wk"
          rw [decide_eq_true e]
          repeat walk_at "wk"
          refine ws_raise1 rfl rfl ?_
          repeat walk_at "wk"
          exact ⟨_, _, rfl, rfl, q⟩
        · rw [if_neg e] at hb
          cases hb
      | _ => cases j2
    | _ => cases j3
theorem len_IX {C : Addr} {pt : Bool} {B : List Rv → Kx → Prop} {n : Nat} (hB : ∀ rs k, B rs k → rs.length = n) : ∀ vs H Q E, spIX C pt B vs H Q E → vs.length = n + 1 := fun vs H Q E ⟨π, X, H1, x, dx, ws, rs, k, h, _, _, _, _, _, _, _, at_, b, _⟩ => by
  rw [h, List.length_cons, ← at_.length, hB rs k b]
end Lw
namespace Lw
open PySem PySem.Spec PyProof.Rows L2 Ly Dt
local macro_rules | `(tactic| walk_at "wk") => `(tactic| first
  | ((with_reducible refine' w_var ?hv ?hn ?_); (case hv => exact rfl); (case hn => (intro z; cases z)))
  | with_reducible refine w_int ?_
  | with_reducible refine w_str ?_
  | with_reducible refine w_op ?_
  | with_reducible refine wa_cons ?_
  | with_reducible refine wa_nil ?_
  | with_reducible refine w_reprL ?_
  | with_reducible refine w_isi2 ?_
  | with_reducible refine w_cb ?_
  | with_reducible refine w_call ?_
  | ((with_reducible refine' ws_retV ?hv ?_); (case hv => exact rfl))
  | with_reducible refine ws_seq ?_
  | with_reducible refine ws_asg ?_
  | with_reducible refine ws_ret ?_
  | with_reducible refine ws_if ?_
  | with_reducible refine ws_next ?_
  | ((with_reducible refine' ws_append ?hv ?hz ?_); (case hv => exact rfl); rotate_left)
  | with_reducible refine ws_drop ?_
  | with_reducible refine ws_retN ?_
  | ((with_reducible refine wg_d ?_); dsimp only [List.set])
  | ((with_reducible refine wg_raw ?_); dsimp only [List.set])
  | ((with_reducible refine wg_E ?_))
  | ((with_reducible refine' we_tup ?hl ?_); (case hl => exact rfl))
  | with_reducible refine wes_cons ?_
  | with_reducible refine wes_nil ?_
  | ((with_reducible refine we_name ?_); dsimp only [List.set])
  | with_reducible refine out_d ?_
  | with_reducible refine out_new ?_
  | with_reducible refine ex_bl ?_
  | with_reducible refine ite_t ?_
  | ((with_reducible refine ex_fzd ?_); dsimp only [List.set, List.nil_append, List.cons_append])
  | ((with_reducible refine ex_fzn ?_); dsimp only [List.set, List.nil_append, List.cons_append])
  | with_reducible refine ite_nt ?_
  | with_reducible refine ite_nf ?_
  | with_reducible refine ite_f ?_
  | with_reducible refine wt_tb ?_
  | with_reducible refine wt_test ?_
  | with_reducible refine wt_and ?_
  | with_reducible refine wt_or ?_
  | with_reducible refine wt_not ?_
  | with_reducible refine w_andV ?_
  | with_reducible refine w_orV ?_
  | with_reducible refine w_notV ?_
  | with_reducible refine w_if ?_
  | with_reducible refine w_bl ?_
  | with_reducible refine w_non ?_
  | with_reducible refine w_ty ?_
  | with_reducible refine w_ref ?_
  | with_reducible refine w_un ?_
  | ((with_reducible refine w_tup ?_); skip)
  | ((with_reducible refine w_lst ?_); skip)
  | ((with_reducible refine' Exists.intro _ (And.intro ?hf (And.intro ?hl ?_))); (case hf => exact rfl); (case hl => exact Nat.le_of_ble_eq_true rfl))
  | with_reducible refine w_fld ?_
  | ((with_reducible refine' fld_of ?ho ?c ?n ?l ?_); (case ho => exact rfl); (case c => assumption); (case n => with_reducible assumption); (case l => exact rfl))
  | with_reducible refine wp_top ?_
  | with_reducible refine wp_bot ?_
  | with_reducible refine w_prop ?_
  | with_reducible refine w_meth ?_
  | with_reducible refine w_smeth ?_
  | with_reducible refine wop_addI ?_
  | with_reducible refine wop_subI ?_
  | ((with_reducible refine' wop_mulI ?c ?_); rotate_left)
  | ((with_reducible refine' wop_fdI ?c ?_); rotate_left)
  | with_reducible refine wop_mdI (by first | decide | assumption) ?_
  | ((with_reducible refine' wop_mdI ?c ?_); rotate_left)
  | ((with_reducible refine' wop_I0 ?e ?_); (case e => exact rfl))
  | ((with_reducible refine' wop_ixT ?e ?_); (case e => exact rfl))
  | ((with_reducible refine' wcb_lenL ?e ?_); (case e => exact rfl))
  | with_reducible refine wcb_lenT ?_
  | ((with_reducible refine' wop_fdX ?c ?_); rotate_left)
  | ((with_reducible refine' wun_U ?e ?_); (case e => exact rfl))
  | with_reducible refine wop_eqI ?_
  | with_reducible refine wop_neI ?_
  | with_reducible refine wop_eqS ?_
  | with_reducible refine wop_neS ?_
  | with_reducible refine wop_isN ?_
  | with_reducible refine wop_notN ?_
  | ((with_reducible refine' wop_inS ?e ?_); (case e => exact rfl))
  | ((with_reducible refine' wop_niS ?e ?_); (case e => exact rfl))
  | with_reducible refine wop_inST ?_
  | with_reducible refine wcb_gcd ?_
  | with_reducible refine wcb_abs ?_
  | with_reducible refine wcb_max2 ?_
  | with_reducible refine wcb_min2 ?_
  | with_reducible refine wcb_int ?_
  | ((with_reducible refine' wcb_isi (b := true) ?ho ?hb ?_); (case ho => exact rfl); (case hb => (dsimp only [tyN]; decide +kernel)))
  | ((with_reducible refine' wcb_isi (b := false) ?ho ?hb ?_); (case ho => exact rfl); (case hb => (dsimp only [tyN]; decide +kernel)))
  | ((with_reducible refine' wcb_listOf ?e ?_); (case e => exact rfl))
  | with_reducible refine wcb_listOfT ?_
  | ((with_reducible refine' wcb_tupOf ?e ?_); (case e => exact rfl))
  | with_reducible refine w_chain ?_
  | with_reducible refine wcb_strS ?_
  | ((with_reducible refine' wcb_lenD ?e ?_); (case e => exact rfl))
  | ((with_reducible refine' wcb_listD ?e ?_); (case e => exact rfl))
  | with_reducible refine w_dnewK ?_
  | with_reducible refine w_dget ?_
  | with_reducible refine w_din ?_
  | with_reducible refine w_dni ?_
  | with_reducible refine w_lenSet ?_
  | with_reducible refine w_listVals ?_
  | with_reducible refine w_chain ?_
  | ((with_reducible refine' wt_yes ?_)))
variable {W : Wd} {a : Ad}
/-- an amount of a gift: a number above 0 -/
def bAmt (R : Addr) (rs : List Rv) (k : Rv → Prop) : Prop := ∃ d q, rs = [.d d] ∧ NumQ R d q ∧ 0 < q.num ∧ Sz 4000 q.num ∧ k (.d .non)
theorem k_check_gift_amount (T : Txt W.K W.mg a) : Cl W 5 "check_gift_amount" (spW false (bAmt a.Ratio)) := by
  refine cl_W T.d_check_gift_amount sc_check_gift_amount bd_check_gift_amount (fun rs k ⟨_, _, h, _⟩ => by rw [h]; rfl) (body_W (n := 1) (m := 0) rfl (fun rs k ⟨_, _, h, _⟩ => by rw [h]; rfl) fun f cdv A outer s H E hr => ⟨_, (pss_one (ps_if (PW.pt (pw_or (pt_not (pt_val (pe_cl (k_is_amount T) hr (by decide) rfl (pa_cons (pv 0) pa_nil)))) (pw_or1 (pt_cmpR (r := rEqU W.K) (op_eqU hr.units) (pe_pp T.o_Ratio.cls (pp_top T) hr (by decide) (pe_sm (sm_of T) hr (by decide) (pe_gn (v := .ref a.Ratio) (by rfl) T.o_Ratio.mg rfl) (pa_cons (pv 0) pa_nil)) rfl) pe_int (nomark _))))) (pss_one ps_never) pss_nil)), fun π rs kr hp hB => ?_⟩)
  obtain ⟨d, x, rfl, n, hx, hs, q⟩ := hB
  dsimp only [uns, List.replicate, List.cons_append, List.nil_append]
  have cR := T.o_Ratio.cls
  repeat walk_at "wk"
  refine wcb_W0 (rs := [.d d]) rfl rfl ⟨d, x, rfl, n, fun z => (by cases z), ?_⟩
  rw [decide_eq_true (by omega)]
  repeat walk_at "wk"
  refine wcb_of n hs (wp_top ?_)
  repeat walk_at "wk"
  rw [decide_eq_false (by omega)]
  repeat walk_at "wk"
  exact q
theorem mvL_of {K : PySem.W.Frag} {C : Addr} : ∀ ms : List M3, MvL K C (ms.map (mvT C)) (ms.map some)
  | [] => .nil
  | m :: ms => .cons (.mv m) (mvL_of ms)
/-- a gift -/
def gfD (G R M : Addr) (q : Rat) (ms : List M3) : D := .obj G [("_amount", ratQ R q), ("_moves", .tup (ms.map (mvT M)))]
def bGift (G R M : Addr) (rs : List Rv) (k : D → Prop) : Prop := ∃ d q ms, rs = [.d d, .d (.tup (ms.map (mvT M)))] ∧ NumQ R d q ∧ 0 < q.num ∧ Sz 4000 q.num ∧ ms ≠ [] ∧ ms.length ≤ 1000 ∧ brk (ms.map some) = none ∧ k (gfD G R M q ms)
theorem b_Gift (T : Txt W.K W.mg a) : BodyOk W 6 N_Gift_init "Gift.__init__" s_Gift_init (spI a.Gift false (bGift a.Gift a.Ratio a.Move)) := by
  intro f cdv A outer s H vs Q E hr h
  refine ⟨_, (pss_cons (ps_expr (pe_cl (k_check_gift_amount T) hr (by decide) rfl (pa_cons (pv 1) pa_nil))) (pss_cons (ps_if (pt_cmpR (r := rEqU W.K) (op_eqU hr.units) (pe_callB (r := Ly.rLen W.K) call_lenU (by rfl) T.b_len (by decide +kernel) (pa_cons (pv 2) pa_nil)) pe_int (nomark _)) (pss_one ps_never) pss_nil) (pss_cons (ps_set (i := 3) sc_Gift_init.nd rfl (Or.inl rfl) (pe_cl (k_break_ofT T) hr (by decide) rfl (pa_cons (pv 2) pa_nil))) (pss_cons (ps_if (pt_cmpR op_notN (pv 3) pe_non (nomark _)) (pss_one ps_never) pss_nil) (pss_cons (ps_fldK (K := W.K) rfl (pv 0) (pe_sm (sm_of T) hr (by decide) (pe_gn (v := .ref a.Ratio) (by rfl) T.o_Ratio.mg rfl) (pa_cons (pv 1) pa_nil)) rfl) (pss_one (ps_fldK (K := W.K) rfl (pv 0) (pv 2) rfl))))))), run_init (n := 2) (m := 1) rfl (fun rs k ⟨_, _, _, h, _⟩ => by rw [h]; rfl) (fun π rs kr x hp hB => ?_) h⟩
  obtain ⟨d, y, ms, rfl, n, hy, hs, hne, hl, hb, q⟩ := hB
  dsimp only [uns, List.replicate, List.cons_append, List.nil_append]
  have nA := T.n_Gift_amount
  have nM := T.n_Gift_moves
  repeat walk_at "wk"
  refine wcb_W0 (rs := [.d d]) rfl rfl ⟨d, y, rfl, n, hy, hs, fun z => (by cases z), ?_⟩
  have hl0 : 0 < (ms.map (mvT a.Move)).length := by rw [List.length_map]; exact List.length_pos_iff.mpr hne
  repeat walk_at "wk"
  rw [decide_eq_false (by omega)]
  repeat walk_at "wk"
  refine wcb_W0 (rs := [.d (.tup (ms.map (mvT a.Move)))]) rfl rfl ⟨_, _, rfl, mvL_of ms, by rw [List.length_map]; exact hl, fun z => (by cases z), ?_⟩
  rw [hb]
  repeat walk_at "wk"
  have e0 : (!Dt.isNon (posD none)) = false := rfl
  rw [e0]
  repeat walk_at "wk"
  refine ws_fld rfl T.o_Gift.cls nA rfl (by show 0 < 900; decide) ?_
  repeat walk_at "wk"
  refine wcb_of n hs ?_
  refine ⟨_, rfl, ?_⟩
  dsimp only [List.set, List.nil_append]
  refine ws_fld rfl T.o_Gift.cls nM rfl (by show 1 < 900; decide) ?_
  repeat walk_at "wk"
  exact ⟨_, rfl, q⟩
/-- what is raised of a row that is no chain -/
def bGiftX (K : PySem.W.Frag) (R M I : Addr) (rs : List Rv) (kx : Kx) : Prop := ∃ d q ds os i, rs = [.d d, .d (.tup ds)] ∧ NumQ R d q ∧ 0 < q.num ∧ Sz 4000 q.num ∧ MvL K M ds os ∧ ds ≠ [] ∧ ds.length ≤ 1000 ∧ brk os = some i ∧ kx I [("position", .int (i : Nat))]
theorem b_GiftX (T : Txt W.K W.mg a) : BodyX W 6 N_Gift_init "Gift.__init__" s_Gift_init (spIX a.Gift false (bGiftX W.K a.Ratio a.Move a.InvalidMoves)) := by
  intro f cdv A outer s H vs Q E hr h
  refine ⟨_, (pss_cons (ps_expr (pe_cl (k_check_gift_amount T) hr (by decide) rfl (pa_cons (pv 1) pa_nil))) (pss_cons (ps_if (pt_cmpR (r := rEqU W.K) (op_eqU hr.units) (pe_callB (r := Ly.rLen W.K) call_lenU (by rfl) T.b_len (by decide +kernel) (pa_cons (pv 2) pa_nil)) pe_int (nomark _)) (pss_one (ps_raise1 rfl takes_x rfl T.t_InvalidMoves (mx_InvalidMoves T) hr (by decide) rfl (pa_cons pe_non pa_nil))) pss_nil) (pss_cons (ps_set (i := 3) sc_Gift_init.nd rfl (Or.inl rfl) (pe_cl (k_break_ofT T) hr (by decide) rfl (pa_cons (pv 2) pa_nil))) (pss_cons (ps_if (pt_cmpR op_notN (pv 3) pe_non (nomark _)) (pss_one (ps_raise1 rfl takes_x rfl T.t_InvalidMoves (mx_InvalidMoves T) hr (by decide) rfl (pa_cons (pv 3) pa_nil))) pss_nil) (pss_cons (ps_fldK (K := W.K) rfl (pv 0) (pe_sm (sm_of T) hr (by decide) (pe_gn (v := .ref a.Ratio) (by rfl) T.o_Ratio.mg rfl) (pa_cons (pv 1) pa_nil)) rfl) (pss_one (ps_fldK (K := W.K) rfl (pv 0) (pv 2) rfl))))))), run_initX (n := 2) (m := 1) rfl (fun rs k ⟨_, _, _, _, _, h, _⟩ => by rw [h]; rfl) (fun π rs kx x hp hB => ?_) h⟩
  obtain ⟨d, y, ds, os, i, rfl, n, hy, hs, hm, hne, hl, hb, q⟩ := hB
  dsimp only [uns, List.replicate, List.cons_append, List.nil_append]
  repeat walk_at "wk"
  refine wcb_W0 (rs := [.d d]) rfl rfl ⟨d, y, rfl, n, hy, hs, fun z => (by cases z), ?_⟩
  have hl0 : 0 < ds.length := List.length_pos_iff.mpr hne
  repeat walk_at "wk"
  rw [decide_eq_false (by omega)]
  repeat walk_at "wk"
  refine wcb_W0 (rs := [.d (.tup ds)]) rfl rfl ⟨_, _, rfl, hm, hl, fun z => (by cases z), ?_⟩
  rw [hb]
  repeat walk_at "wk"
  have e0 : (!Dt.isNon (posD (some i))) = true := rfl
  rw [e0]
  repeat walk_at "wk"
  refine ws_raise1 rfl rfl ?_
  repeat walk_at "wk"
  exact ⟨_, _, rfl, rfl, q⟩
/-- Gift(d, m, ..) -/
theorem m_Gift (T : Txt W.K W.mg a) : MakR W CX0 7 "Gift" a.Gift (spI a.Gift false (BStar 1 (bGift a.Gift a.Ratio a.Move))) := by
  obtain ⟨f, fd, F, M⟩ := T.d_Gift_init.ex
  obtain ⟨oc, od, dV, kV, doc, pm, an, cdv, ct, osl, rfl, lk, hcd, hD, hK⟩ := F.ex
  have hd0 : dV = .none := by
    rcases hD with ⟨_, h⟩ | ⟨h, _⟩
    · exact h
    · exact absurd rfl h
  subst hd0
  exact ⟨f, M, FnR.imp (StX.fn_star (ps := ["self", "amount"]) (pv := "moves") (k := 6) lk hcd sc_Gift_init StX.cxUp_none (StX.bind_star2 (B := fun us => bindArgs (PySem.W.fnOf "__init__" "Gift.__init__" (defArgs s_Gift_init) (defBody s_Gift_init) (defScope s_Gift_init) .none kV doc pm an cdv ct) ⟨us, []⟩) (fun _ _ => rfl) fun _ _ _ _ => rfl)
    (sp := spI a.Gift false (bGift a.Gift a.Ratio a.Move)) (fun A outer s H vs Q E hr h => (b_Gift T f cdv A outer s H vs Q E hr h).imp fun t h => ⟨h.1.nox, h.2⟩)) fun vs H Q E h => star_I h, T.o_Gift.mg⟩
end Lw
namespace Ly
open PySem PySem.Spec PyProof.Rows L2
/-- this or that -/
def spU (s1 s2 : Sp) : Sp := fun vs H Q E => s1 vs H Q E ∨ s2 vs H Q E
theorem body_U {W : Wd} {k : Nat} {N : List Str} {qual : Str} {st : Stmt} {s1 s2 : Sp} (b1 : BodyOk W k N qual st s1) (b2 : BodyX W k N qual st s2) : BodyX W k N qual st (spU s1 s2) := fun f cdv A outer s H vs Q E hr h =>
  h.elim (fun h => (b1 f cdv A outer s H vs Q E hr h).imp fun t h => ⟨PSs.nox (X := cxOf (CXW W) W.P W.w W.K W.mg W.base N qual (defScope st) f cdv A outer s H E) h.1, h.2⟩) fun h => b2 f cdv A outer s H vs Q E hr h
theorem len_U {s1 s2 : Sp} {n : Nat} (h1 : ∀ vs H Q E, s1 vs H Q E → vs.length = n) (h2 : ∀ vs H Q E, s2 vs H Q E → vs.length = n) : ∀ vs H Q E, spU s1 s2 vs H Q E → vs.length = n := fun vs H Q E h => h.elim (h1 vs H Q E) (h2 vs H Q E)
structure MakKgX (g : {α : Type} → List α → List α → List α) (W : Wd) (k : Nat) (x : Str) (C : Addr) (ks : List Str) (sp : Sp) : Prop where
  ex : ∃ (f : Addr) (fd : FuncData) (ps : List Str), Mk W.K C f ∧ FnOk W.P W.w W.K W.mg W.base (CXW W) k f fd ps sp ∧ W.mg x = some (.ref C) ∧ KBn W.K fd ps 1 ks g g
theorem pe_makKgX {g : {α : Type} → List α → List α → List α} {X : Cx} {k j : Nat} {x : Str} {C : Addr} {ks : List Str} {sp : Sp} {p pos : Pos} {kws : List Keyword} {tk : TA} {W0 : WX} {E : XK} (h : MakKgX g ⟨X.prog, X.w, X.K, X.mg, X.base⟩ k x C ks sp) (tx : Takes X W0) (hW : ∀ cls d σ H, E cls d H → W0 cls d σ H) (hr : Room j X.A) (hk : k + 1 ≤ j) (hg : Gl X x) (hkw : PK X kws tk)
    (hall : (backToKw pos (keywordEach kws X.env)).all (·.1.isSome) = true := by rfl) (hks : (backToKw pos (keywordEach kws X.env)).filterMap (·.1) = ks := by rfl) (hdb : (x == ("__debug__" : Str)) = false := by decide)
    (hpl : ((backTo pos (starEach [] X.env)).any (·.1) || (backToKw pos (keywordEach kws X.env)).any (·.1.isNone)) = false := by rfl) :
    PE X (.Call (.Name x p) [] kws pos) (tMakeK C 0 ks.length sp g E tNil tk) := by
  obtain ⟨f, fd, ps, M, F, hm, b⟩ := h.ex
  exact pe_makeK0 M F (hr.mono hk) hg hm b (passes_call tx hW) hkw hall hks hdb hpl
/-- all in the other direction -/
def gV {α : Type} (us ws : List α) : List α := us ++ ws.reverse
end Ly
namespace Dt
open PySem PySem.Spec PyProof.Rows L2 Ly
section
variable {π : Po} {δ : List Rv} {k : Rv → Prop} {kx : Kx} {E : XK} {C : Addr} {t : TA} {B1 : List Rv → (D → Prop) → Prop} {B2 : List Rv → Kx → Prop}
/-- what C(..) comes to -/
theorem mk_U {X : Xs} {H H1 : Hp} {as rs : List Rv} {vs : List V} {Q : VK} (o : Ok π X H) (k1 : Kp π H H1) (a : RAts π X H H1 as vs) (xc : XcAt π X H kx E) (h : ∀ v r H', Kp π H H' → RAt π X H H' r v → k r → Q v H') (hf : fzA as = some rs) (hN : rs.all noPot = true) (b : (B1 rs fun d => k (.d d)) ∨ B2 rs kx) :
    ∀ x dx, H1 x = none → H1 dx = none → dx ≠ x → spU (spI C false B1) (spIX C false B2) (.ref x :: vs) (upd (upd H1 dx (.own x)) x (.ins C dx [])) (fun v H3 => v = .non ∧ Q (.ref x) H3) E := by
  intro x dx hx hdx hne
  have o1 := o.keep k1
  have a1 := a.fzA o hf
  rcases b with b | b
  · refine .inl ⟨no, X, H1, x, dx, vs, rs, fun d => k (.d d), rfl, hx, hdx, hne, rfl, rfl, o1.none, fzA_all hf, a1.free (fzA_all hf) hN, b, fun H' fs k2 t2 kd => ⟨rfl, ?_⟩⟩
    have k3 : Kp π H1 H' := Kp.of_same o1 k2.same
    have nX : ¬ X x := fun z => o1.dom x z hx
    refine h (.ref x) (.d (.obj C fs)) H' (k1.trans k3) ?_ kd
    obtain ⟨dx', fs', e1, e2, t3⟩ := t2
    exact At.obj (cut_of nX e1) e2 (t3.mono plus_sub)
  · exact .inr ⟨no, X, H1, x, dx, vs, rs, kx, rfl, hx, hdx, hne, rfl, rfl, o1.none, fzA_all hf, a1.free (fzA_all hf) hN, b, (xc.up o k1).no o1⟩
theorem wx_makeU (q : WpA π t δ fun as => ∃ rs, fzA as = some rs ∧ rs.all noPot = true ∧ ((B1 rs fun d => k (.d d)) ∨ B2 rs kx)) : WpX π E kx (StX.tMakeR C (spU (spI C false B1) (spIX C false B2)) E t) δ k := fun X H σ Q o e xc h => by
  refine q X H σ _ o e fun vs as H1 k1 a w => ?_
  obtain ⟨rs, hf, hN, b⟩ := w
  exact mk_U o k1 a xc h hf hN b
theorem rats_rev {X : Xs} {H0 H : Hp} : ∀ {rs : List Rv} {vs : List V}, RAts π X H0 H rs vs → RAts π X H0 H rs.reverse vs.reverse := by
  have app : ∀ {rs : List Rv} {vs : List V} {r : Rv} {v : V}, RAts π X H0 H rs vs → RAt π X H0 H r v → RAts π X H0 H (rs ++ [r]) (vs ++ [v]) := by
    intro rs
    induction rs with
    | nil => intro vs r v a b; match vs, a with | [], _ => exact ⟨b, trivial⟩
    | cons r0 rs ih => intro vs r v a b; match vs, a with | v0 :: vs, ⟨a0, a⟩ => exact ⟨a0, ih a b⟩
  intro rs
  induction rs with
  | nil => intro vs a; match vs, a with | [], _ => exact trivial
  | cons r rs ih =>
    intro vs a
    match vs, a with
    | v :: vs, ⟨a0, a⟩ =>
      rw [List.reverse_cons, List.reverse_cons]
      exact app (ih a) a0
theorem wx_makKgU {n : Nat} (q : WpA π t δ fun as => as.length = n ∧ ∃ rs, fzA as.reverse = some rs ∧ rs.all noPot = true ∧ ((B1 rs fun d => k (.d d)) ∨ B2 rs kx)) : WpX π E kx (tMakeK C 0 n (spU (spI C false B1) (spIX C false B2)) gV E tNil t) δ k := fun X H σ Q o e xc h => by
  show t σ H _
  refine q X H σ _ o e fun vs as H1 k1 a w => ?_
  obtain ⟨hl, rs, hf, hN, b⟩ := w
  refine ⟨rfl, by rw [← a.length]; exact hl, ?_⟩
  exact mk_U (as := as.reverse) o k1 (rats_rev a) xc h hf hN b
end
end Dt
namespace Lw
open PySem PySem.Spec PyProof.Rows L2 Ly Dt
local macro_rules | `(tactic| walk_at "wk") => `(tactic| first
  | ((with_reducible refine' w_var ?hv ?hn ?_); (case hv => exact rfl); (case hn => (intro z; cases z)))
  | with_reducible refine w_int ?_
  | with_reducible refine w_str ?_
  | with_reducible refine w_op ?_
  | with_reducible refine wa_cons ?_
  | with_reducible refine wa_nil ?_
  | with_reducible refine w_reprL ?_
  | with_reducible refine w_isi2 ?_
  | with_reducible refine w_cb ?_
  | with_reducible refine w_call ?_
  | ((with_reducible refine' ws_retV ?hv ?_); (case hv => exact rfl))
  | with_reducible refine ws_seq ?_
  | with_reducible refine ws_asg ?_
  | with_reducible refine ws_ret ?_
  | with_reducible refine ws_if ?_
  | with_reducible refine ws_next ?_
  | ((with_reducible refine' ws_append ?hv ?hz ?_); (case hv => exact rfl); rotate_left)
  | with_reducible refine ws_drop ?_
  | with_reducible refine ws_retN ?_
  | ((with_reducible refine wg_d ?_); dsimp only [List.set])
  | ((with_reducible refine wg_raw ?_); dsimp only [List.set])
  | ((with_reducible refine wg_E ?_))
  | ((with_reducible refine' we_tup ?hl ?_); (case hl => exact rfl))
  | with_reducible refine wes_cons ?_
  | with_reducible refine wes_nil ?_
  | ((with_reducible refine we_name ?_); dsimp only [List.set])
  | with_reducible refine out_d ?_
  | with_reducible refine out_new ?_
  | with_reducible refine ex_bl ?_
  | with_reducible refine ite_t ?_
  | ((with_reducible refine ex_fzd ?_); dsimp only [List.set, List.nil_append, List.cons_append])
  | ((with_reducible refine ex_fzn ?_); dsimp only [List.set, List.nil_append, List.cons_append])
  | with_reducible refine ite_nt ?_
  | with_reducible refine ite_nf ?_
  | with_reducible refine ite_f ?_
  | with_reducible refine wt_tb ?_
  | with_reducible refine wt_test ?_
  | with_reducible refine wt_and ?_
  | with_reducible refine wt_or ?_
  | with_reducible refine wt_not ?_
  | with_reducible refine w_andV ?_
  | with_reducible refine w_orV ?_
  | with_reducible refine w_notV ?_
  | with_reducible refine w_if ?_
  | with_reducible refine w_bl ?_
  | with_reducible refine w_non ?_
  | with_reducible refine w_ty ?_
  | with_reducible refine w_ref ?_
  | with_reducible refine w_un ?_
  | ((with_reducible refine w_tup ?_); skip)
  | ((with_reducible refine w_lst ?_); skip)
  | ((with_reducible refine' Exists.intro _ (And.intro ?hf (And.intro ?hl ?_))); (case hf => exact rfl); (case hl => exact Nat.le_of_ble_eq_true rfl))
  | with_reducible refine w_fld ?_
  | ((with_reducible refine' fld_of ?ho ?c ?n ?l ?_); (case ho => exact rfl); (case c => assumption); (case n => with_reducible assumption); (case l => exact rfl))
  | with_reducible refine wp_top ?_
  | with_reducible refine wp_bot ?_
  | with_reducible refine w_prop ?_
  | with_reducible refine w_meth ?_
  | with_reducible refine w_smeth ?_
  | with_reducible refine wop_addI ?_
  | with_reducible refine wop_subI ?_
  | ((with_reducible refine' wop_mulI ?c ?_); rotate_left)
  | ((with_reducible refine' wop_fdI ?c ?_); rotate_left)
  | with_reducible refine wop_mdI (by first | decide | assumption) ?_
  | ((with_reducible refine' wop_mdI ?c ?_); rotate_left)
  | ((with_reducible refine' wop_I0 ?e ?_); (case e => exact rfl))
  | ((with_reducible refine' wop_ixT ?e ?_); (case e => exact rfl))
  | ((with_reducible refine' wcb_lenL ?e ?_); (case e => exact rfl))
  | with_reducible refine wcb_lenT ?_
  | ((with_reducible refine' wop_fdX ?c ?_); rotate_left)
  | ((with_reducible refine' wun_U ?e ?_); (case e => exact rfl))
  | with_reducible refine wop_eqI ?_
  | with_reducible refine wop_neI ?_
  | with_reducible refine wop_eqS ?_
  | with_reducible refine wop_neS ?_
  | with_reducible refine wop_isN ?_
  | with_reducible refine wop_notN ?_
  | ((with_reducible refine' wop_inS ?e ?_); (case e => exact rfl))
  | ((with_reducible refine' wop_niS ?e ?_); (case e => exact rfl))
  | with_reducible refine wop_inST ?_
  | with_reducible refine wcb_gcd ?_
  | with_reducible refine wcb_abs ?_
  | with_reducible refine wcb_max2 ?_
  | with_reducible refine wcb_min2 ?_
  | with_reducible refine wcb_int ?_
  | ((with_reducible refine' wcb_isi (b := true) ?ho ?hb ?_); (case ho => exact rfl); (case hb => (dsimp only [tyN]; decide +kernel)))
  | ((with_reducible refine' wcb_isi (b := false) ?ho ?hb ?_); (case ho => exact rfl); (case hb => (dsimp only [tyN]; decide +kernel)))
  | ((with_reducible refine' wcb_listOf ?e ?_); (case e => exact rfl))
  | with_reducible refine wcb_listOfT ?_
  | ((with_reducible refine' wcb_tupOf ?e ?_); (case e => exact rfl))
  | with_reducible refine w_chain ?_
  | with_reducible refine wcb_strS ?_
  | ((with_reducible refine' wcb_lenD ?e ?_); (case e => exact rfl))
  | ((with_reducible refine' wcb_listD ?e ?_); (case e => exact rfl))
  | with_reducible refine w_dnewK ?_
  | with_reducible refine w_dget ?_
  | with_reducible refine w_din ?_
  | with_reducible refine w_dni ?_
  | with_reducible refine w_lenSet ?_
  | with_reducible refine w_listVals ?_
  | with_reducible refine w_chain ?_
  | ((with_reducible refine' wt_yes ?_)))
variable {W : Wd} {a : Ad}
abbrev spMove (a : Ad) : Sp := spU (spI a.Move false (bMove a.Move)) (spIX a.Move false (bMoveX a.Ratio a.InvalidName))
theorem b_MoveU (T : Txt W.K W.mg a) : BodyX W 2 N_Move_init "Move.__init__" s_Move_init (spMove a) := body_U (b_Move T) (b_MoveX T)
theorem len_MoveU : ∀ vs H Q E, spMove a vs H Q E → vs.length = 4 := len_U (len_I (n := 3) fun rs k ⟨_, _, _, h, _⟩ => by rw [h]; rfl) (len_IX (n := 3) fun rs k ⟨_, _, _, _, h, _⟩ => by rw [h]; rfl)
theorem m_MoveU (T : Txt W.K W.mg a) : MakR W (CXW W) 3 "Move" a.Move (spMove a) := by
  obtain ⟨f, fd, F, M⟩ := T.d_Move_init.ex
  refine ⟨f, M, FnR.imp (FnOk.raw (F.ok (CX := CXW W) sc_Move_init len_MoveU (fun cdv A outer s H vs Q E hr h => b_MoveU T f cdv A outer s H vs Q E hr h)) (F.bindsN fun kV doc pm an cdv ct us hl => match us, hl with | [_, _, _, _], _ => rfl) .nil) (fun vs H Q E h => by rw [List.append_nil]; exact h), T.o_Move.mg⟩
theorem m_MoveUk (T : Txt W.K W.mg a) : MakKgX gV W 3 "Move" a.Move ["goal", "start", "task"] (spMove a) := by
  obtain ⟨f, fd, F, M⟩ := T.d_Move_init.ex
  refine ⟨f, fd, _, M, F.ok (CX := CXW W) sc_Move_init len_MoveU (fun cdv A outer s H vs Q E hr h => b_MoveU T f cdv A outer s H vs Q E hr h), T.o_Move.mg, kbn_ofN F (fun r1 r2 => r1.append r2.reverse) fun kV doc pm an cdv ct us ws l1 l2 => match us, ws, l1, l2 with | [_], [_, _, _], _, _ => rfl⟩
end Lw
namespace Dt
open PySem PySem.Spec PyProof.Rows L2 Ly
theorem ws_dropX {π : Po} {te : TE} {δ : List Rv} {k : Ke} (q : WpX π k.xe k.kx te δ fun _ => k.nx δ) : Ws π (tDrop te) k δ := fun H0 X0 L X H σ D iv ev ow en => by
  exact q X H σ _ iv.ok ev (en.at_ iv) fun v r H1 k1 a w => en.nx X H1 σ δ (iv.keep k1) (ev.keep iv.ok k1) ow (iv.ok.fr k1) w
theorem spIX_or {C : Addr} {pt : Bool} {B1 B2 : List Rv → Kx → Prop} {vs : List V} {H : Hp} {Q : VK} {E : XK} (h : spIX C pt (fun rs k => B1 rs k ∨ B2 rs k) vs H Q E) : spU (spIX C pt B1) (spIX C pt B2) vs H Q E := by
  obtain ⟨π, X, H1, x, dx, ws, rs, kx, h1, h2, h3, h4, h5, h6, h7, h8, h9, b, h10⟩ := h
  exact b.elim (fun b => .inl ⟨π, X, H1, x, dx, ws, rs, kx, h1, h2, h3, h4, h5, h6, h7, h8, h9, b, h10⟩) fun b => .inr ⟨π, X, H1, x, dx, ws, rs, kx, h1, h2, h3, h4, h5, h6, h7, h8, h9, b, h10⟩
section
variable {π : Po} {δ : List Rv} {k : Rv → Prop} {kx : Kx} {E : XK} {C : Addr} {t ts : TA} {te : TE} {B1 : List Rv → (D → Prop) → Prop} {B2 : List Rv → Kx → Prop}
/-- arguments that may raise -/
def WpAX (π : Po) (E : XK) (kx : Kx) (ta : TA) (δ : List Rv) (k : List Rv → Prop) : Prop :=
  ∀ (X : Xs) (H : Hp) (σ : L2.St) (Q : List V → Hp → Prop), Ok π X H → Ev π X H σ δ → XcAt π X H kx E → (∀ vs rs H', Kp π H H' → RAts π X H H' rs vs → k rs → Q vs H') → ta σ H Q
theorem wax_cons {k : List Rv → Prop} (q : WpX π E kx te δ fun r => WpAX π E kx ts δ fun rs => k (r :: rs)) : WpAX π E kx (tCons te ts) δ k := fun X H σ Q o e xc h => by
  refine q X H σ _ o e xc fun x a H1 k1 r1 w => ?_
  have o1 := o.keep k1
  refine w X H1 σ _ o1 (e.keep o k1) (xc.up o k1) fun vs rs H2 k2 r2 kr => ?_
  exact h (x :: vs) (a :: rs) H2 (k1.trans k2) ⟨r1.keep o1 k1 o k2, r2.base o k1⟩ kr
theorem wx_makeUX (q : WpAX π E kx t δ fun as => ∃ rs, fzA as = some rs ∧ rs.all noPot = true ∧ ((B1 rs fun d => k (.d d)) ∨ B2 rs kx)) : WpX π E kx (StX.tMakeR C (spU (spI C false B1) (spIX C false B2)) E t) δ k := fun X H σ Q o e xc h => by
  refine q X H σ _ o e xc fun vs as H1 k1 a w => ?_
  obtain ⟨rs, hf, hN, b⟩ := w
  exact mk_U o k1 a xc h hf hN b
theorem wcb_U {B : List Rv → (Rv → Prop) → Prop} {as rs : List Rv} (hf : fzA as = some rs) (hN : rs.all noPot = true) (b : (B rs fun r => r ≠ .pot ∧ k r) ∨ B2 rs kx) : WCbX π E kx (fun vs H Q => spU (spW false B) (spX false B2) vs H Q E) as k := fun X H0 H xs Q o0 o k0 a x h => by
  rcases b with b | b
  · exact .inl (wcb_W0 hf hN b X H0 H xs Q o0 o k0 a h)
  · exact .inr (wcb_X hf hN b X H0 H xs Q o0 o k0 a x h)
def tSMx (C : Addr) (sp : Sp) (E : XK) (ta : TE) (t : TA) : TE := fun σ H Q => ta σ H fun x H1 => x = .ref C ∧ t σ H1 fun vs H2 => sp vs H2 Q E
theorem wx_smx {sp : Sp} (q : WpA π t δ fun as => WCbX π E kx (fun vs H Q => sp vs H Q E) as k) : WpX π E kx (tSMx C sp E (tC (.ref C)) t) δ k := fun X H σ Q o e x h => by
  refine ⟨rfl, q X H σ _ o e fun vs as H1 k1 a w => ?_⟩
  exact w X H H1 vs Q o (o.keep k1) k1 a (x.up o k1) fun v z H' k2 ra kz => h v z H' (k1.trans k2) ra kz
end
end Dt
namespace Ly
open PySem PySem.Spec PyProof.Rows L2 Dt
structure Smx (W : Wd) (k : Nat) (C : Addr) (m : Str) (sp : Sp) : Prop where
  ex : ∃ (p g : Addr) (fd : FuncData) (ps : List Str) (mc : Value), ClX.CRead W.K C mc ∧ SMet W.K C mc m p g ∧ FnOk W.P W.w W.K W.mg W.base (CXW W) k g fd ps sp ∧ Binds W.K fd ps []
theorem smx_of {W : Wd} {k : Nat} {C : Addr} {m qual : Str} {st : Stmt} {N ps : List Str} {sp : Sp} (g : GS W.K C m qual st) (S : FnScope N ps (defScope st)) (hb : BindOk m qual st ps) (len : ∀ vs H Q E, sp vs H Q E → vs.length = ps.length) (hbody : BodyX W k N qual st sp) : Smx W (k + 1) C m sp := by
  obtain ⟨p, f, fd, mc, F, hm, hr⟩ := g.ex
  exact ⟨p, f, fd, ps, mc, hr, hm, fun_okx F S len (fun cdv A outer s H vs Q E => hbody f cdv A outer s H vs Q E), F.binds hb⟩
theorem pe_smx {X : Cx} {k j : Nat} {C : Addr} {m : Str} {sp : Sp} {E : XK} {o e : Expr} {es : List Expr} {pos apos : Pos} {ta : TE} {t : TA} {pl : Sem Bool} {W0 : WX} (h : Smx ⟨X.prog, X.w, X.K, X.mg, X.base⟩ k C m sp) (tx : Takes X W0) (hW : ∀ cls d σ H, E cls d H → W0 cls d σ H) (hr : Room j X.A) (hk : k ≤ j) (he : PE X o ta) (ha : PA X (e :: es) t)
    (hst : starEach (e :: es) X.env = (false, eval e X.env) :: starEach es X.env := by rfl) (hpl : (backTo pos (starEach es X.env)).any (·.1) = false := by rfl)
    (ht : eval (.Call (.Attribute o m apos) (e :: es) [] pos) X.env = (do
      let ov ← eval o X.env
      standAt apos.atName
      let (f, first) ← holding [ov] (getMethod ov m pl)
      callWith pos f first (backTo pos (starEach (e :: es) X.env)) (backToKw pos (keywordEach [] X.env))) := by rfl) :
    PE X (.Call (.Attribute o m apos) (e :: es) [] pos) (tSMx C sp E ta t) := by
  obtain ⟨p, f, fd, ps, mc, r, c, F, b⟩ := h.ex
  refine ⟨fun pins s σ H Q I h => ?_⟩
  refine PySem.W.methodCall_KW (pl := pl) (thn (he.run pins s σ H _ I h) fun u s1 ⟨x, H1, I1, rx, ex, q⟩ => ?_) ht
  subst ex
  obtain rfl : u = Value.ref C := rx
  refine getsm_ok I1 r c fun s2 I2 => ?_
  refine PySem.W.callWith_K (h₀ := X.base) I.ok.mod.kin c.kp (thn (ha.run pos pins s2 σ H1 _ I2 q) fun us s3 ⟨vs, H2, I3, rv, q2⟩ => ⟨I3.kIn, ?_⟩) hst hpl
  exact run_fn (ds := []) (dvs := []) F (hr.mono hk) b .nil (passes_call tx hW) I3 rv (by rw [List.append_nil]; exact q2)
end Ly
namespace Lw
open PySem PySem.Spec PyProof.Rows L2 Ly Dt
local macro_rules | `(tactic| walk_at "wk") => `(tactic| first
  | ((with_reducible refine' w_var ?hv ?hn ?_); (case hv => exact rfl); (case hn => (intro z; cases z)))
  | with_reducible refine w_int ?_
  | with_reducible refine w_str ?_
  | with_reducible refine w_op ?_
  | with_reducible refine wa_cons ?_
  | with_reducible refine wa_nil ?_
  | with_reducible refine w_reprL ?_
  | with_reducible refine w_isi2 ?_
  | with_reducible refine w_cb ?_
  | with_reducible refine w_call ?_
  | ((with_reducible refine' ws_retV ?hv ?_); (case hv => exact rfl))
  | with_reducible refine ws_seq ?_
  | with_reducible refine ws_asg ?_
  | with_reducible refine ws_ret ?_
  | with_reducible refine ws_if ?_
  | with_reducible refine ws_next ?_
  | ((with_reducible refine' ws_append ?hv ?hz ?_); (case hv => exact rfl); rotate_left)
  | with_reducible refine ws_drop ?_
  | with_reducible refine ws_retN ?_
  | ((with_reducible refine wg_d ?_); dsimp only [List.set])
  | ((with_reducible refine wg_raw ?_); dsimp only [List.set])
  | ((with_reducible refine wg_E ?_))
  | ((with_reducible refine' we_tup ?hl ?_); (case hl => exact rfl))
  | with_reducible refine wes_cons ?_
  | with_reducible refine wes_nil ?_
  | ((with_reducible refine we_name ?_); dsimp only [List.set])
  | with_reducible refine out_d ?_
  | with_reducible refine out_new ?_
  | with_reducible refine ex_bl ?_
  | with_reducible refine ite_t ?_
  | ((with_reducible refine ex_fzd ?_); dsimp only [List.set, List.nil_append, List.cons_append])
  | ((with_reducible refine ex_fzn ?_); dsimp only [List.set, List.nil_append, List.cons_append])
  | with_reducible refine ite_nt ?_
  | with_reducible refine ite_nf ?_
  | with_reducible refine ite_f ?_
  | with_reducible refine wt_tb ?_
  | with_reducible refine wt_test ?_
  | with_reducible refine wt_and ?_
  | with_reducible refine wt_or ?_
  | with_reducible refine wt_not ?_
  | with_reducible refine w_andV ?_
  | with_reducible refine w_orV ?_
  | with_reducible refine w_notV ?_
  | with_reducible refine w_if ?_
  | with_reducible refine w_bl ?_
  | with_reducible refine w_non ?_
  | with_reducible refine w_ty ?_
  | with_reducible refine w_ref ?_
  | with_reducible refine w_un ?_
  | ((with_reducible refine w_tup ?_); skip)
  | ((with_reducible refine w_lst ?_); skip)
  | ((with_reducible refine' Exists.intro _ (And.intro ?hf (And.intro ?hl ?_))); (case hf => exact rfl); (case hl => exact Nat.le_of_ble_eq_true rfl))
  | with_reducible refine w_fld ?_
  | ((with_reducible refine' fld_of ?ho ?c ?n ?l ?_); (case ho => exact rfl); (case c => assumption); (case n => with_reducible assumption); (case l => exact rfl))
  | with_reducible refine wp_top ?_
  | with_reducible refine wp_bot ?_
  | with_reducible refine w_prop ?_
  | with_reducible refine w_meth ?_
  | with_reducible refine w_smeth ?_
  | with_reducible refine wop_addI ?_
  | with_reducible refine wop_subI ?_
  | ((with_reducible refine' wop_mulI ?c ?_); rotate_left)
  | ((with_reducible refine' wop_fdI ?c ?_); rotate_left)
  | with_reducible refine wop_mdI (by first | decide | assumption) ?_
  | ((with_reducible refine' wop_mdI ?c ?_); rotate_left)
  | ((with_reducible refine' wop_I0 ?e ?_); (case e => exact rfl))
  | ((with_reducible refine' wop_ixT ?e ?_); (case e => exact rfl))
  | ((with_reducible refine' wcb_lenL ?e ?_); (case e => exact rfl))
  | with_reducible refine wcb_lenT ?_
  | ((with_reducible refine' wop_fdX ?c ?_); rotate_left)
  | ((with_reducible refine' wun_U ?e ?_); (case e => exact rfl))
  | with_reducible refine wop_eqI ?_
  | with_reducible refine wop_neI ?_
  | with_reducible refine wop_eqS ?_
  | with_reducible refine wop_neS ?_
  | with_reducible refine wop_isN ?_
  | with_reducible refine wop_notN ?_
  | ((with_reducible refine' wop_inS ?e ?_); (case e => exact rfl))
  | ((with_reducible refine' wop_niS ?e ?_); (case e => exact rfl))
  | with_reducible refine wop_inST ?_
  | with_reducible refine wcb_gcd ?_
  | with_reducible refine wcb_abs ?_
  | with_reducible refine wcb_max2 ?_
  | with_reducible refine wcb_min2 ?_
  | with_reducible refine wcb_int ?_
  | ((with_reducible refine' wcb_isi (b := true) ?ho ?hb ?_); (case ho => exact rfl); (case hb => (dsimp only [tyN]; decide +kernel)))
  | ((with_reducible refine' wcb_isi (b := false) ?ho ?hb ?_); (case ho => exact rfl); (case hb => (dsimp only [tyN]; decide +kernel)))
  | ((with_reducible refine' wcb_listOf ?e ?_); (case e => exact rfl))
  | with_reducible refine wcb_listOfT ?_
  | ((with_reducible refine' wcb_tupOf ?e ?_); (case e => exact rfl))
  | with_reducible refine w_chain ?_
  | with_reducible refine wcb_strS ?_
  | ((with_reducible refine' wcb_lenD ?e ?_); (case e => exact rfl))
  | ((with_reducible refine' wcb_listD ?e ?_); (case e => exact rfl))
  | with_reducible refine w_dnewK ?_
  | with_reducible refine w_dget ?_
  | with_reducible refine w_din ?_
  | with_reducible refine w_dni ?_
  | with_reducible refine w_lenSet ?_
  | with_reducible refine w_listVals ?_
  | with_reducible refine w_chain ?_
  | ((with_reducible refine' wt_yes ?_)))
variable {W : Wd} {a : Ad}
def bGiftN (R M I : Addr) (rs : List Rv) (kx : Kx) : Prop := ∃ x ds, rs = [.d x, .d (.tup ds)] ∧ AmtX R M x ∧ kx I [("value", x)]
theorem b_GiftN (T : Txt W.K W.mg a) : BodyX W 6 N_Gift_init "Gift.__init__" s_Gift_init (spIX a.Gift false (bGiftN a.Ratio a.Move a.InvalidNumber)) := by
  intro f cdv A outer s H vs Q E hr h
  refine ⟨_, (pss_cons (ps_expr (pe_clx (k_check_gift_amountX T) takes_x (fun _ _ _ _ h => h) hr (by decide) rfl (pa_cons (pv 1) pa_nil))) (pss_cons (ps_if (pt_cmpR (r := rEqU W.K) (op_eqU hr.units) (pe_callB (r := Ly.rLen W.K) call_lenU (by rfl) T.b_len (by decide +kernel) (pa_cons (pv 2) pa_nil)) pe_int (nomark _)) (pss_one (ps_raise1 rfl takes_x rfl T.t_InvalidMoves (mx_InvalidMoves T) hr (by decide) rfl (pa_cons pe_non pa_nil))) pss_nil) (pss_cons (ps_set (i := 3) sc_Gift_init.nd rfl (Or.inl rfl) (pe_cl (k_break_ofT T) hr (by decide) rfl (pa_cons (pv 2) pa_nil))) (pss_cons (ps_if (pt_cmpR op_notN (pv 3) pe_non (nomark _)) (pss_one (ps_raise1 rfl takes_x rfl T.t_InvalidMoves (mx_InvalidMoves T) hr (by decide) rfl (pa_cons (pv 3) pa_nil))) pss_nil) (pss_cons (ps_fldK (K := W.K) rfl (pv 0) (pe_sm (sm_of T) hr (by decide) (pe_gn (v := .ref a.Ratio) (by rfl) T.o_Ratio.mg rfl) (pa_cons (pv 1) pa_nil)) rfl) (pss_one (ps_fldK (K := W.K) rfl (pv 0) (pv 2) rfl))))))), run_initX (n := 2) (m := 1) rfl (fun rs k ⟨_, _, h, _⟩ => by rw [h]; rfl) (fun π rs kx x hp hB => ?_) h⟩
  obtain ⟨d, ds, rfl, n, q⟩ := hB
  dsimp only [uns, List.replicate, List.cons_append, List.nil_append]
  refine ws_seq (ws_dropX (wx_call ?_))
  repeat walk_at "wk"
  exact wcb_X (rs := [.d d]) rfl rfl ⟨d, rfl, n, q⟩
def bGift0 (R I : Addr) (rs : List Rv) (kx : Kx) : Prop := ∃ d q, rs = [.d d, .d (.tup [])] ∧ NumQ R d q ∧ 0 < q.num ∧ Sz 4000 q.num ∧ kx I [("position", .non)]
theorem b_Gift0 (T : Txt W.K W.mg a) : BodyX W 6 N_Gift_init "Gift.__init__" s_Gift_init (spIX a.Gift false (bGift0 a.Ratio a.InvalidMoves)) := by
  intro f cdv A outer s H vs Q E hr h
  refine ⟨_, (pss_cons (ps_expr (pe_cl (k_check_gift_amount T) hr (by decide) rfl (pa_cons (pv 1) pa_nil))) (pss_cons (ps_if (pt_cmpR (r := rEqU W.K) (op_eqU hr.units) (pe_callB (r := Ly.rLen W.K) call_lenU (by rfl) T.b_len (by decide +kernel) (pa_cons (pv 2) pa_nil)) pe_int (nomark _)) (pss_one (ps_raise1 rfl takes_x rfl T.t_InvalidMoves (mx_InvalidMoves T) hr (by decide) rfl (pa_cons pe_non pa_nil))) pss_nil) (pss_cons (ps_set (i := 3) sc_Gift_init.nd rfl (Or.inl rfl) (pe_cl (k_break_ofT T) hr (by decide) rfl (pa_cons (pv 2) pa_nil))) (pss_cons (ps_if (pt_cmpR op_notN (pv 3) pe_non (nomark _)) (pss_one (ps_raise1 rfl takes_x rfl T.t_InvalidMoves (mx_InvalidMoves T) hr (by decide) rfl (pa_cons (pv 3) pa_nil))) pss_nil) (pss_cons (ps_fldK (K := W.K) rfl (pv 0) (pe_sm (sm_of T) hr (by decide) (pe_gn (v := .ref a.Ratio) (by rfl) T.o_Ratio.mg rfl) (pa_cons (pv 1) pa_nil)) rfl) (pss_one (ps_fldK (K := W.K) rfl (pv 0) (pv 2) rfl))))))), run_initX (n := 2) (m := 1) rfl (fun rs k ⟨_, _, h, _⟩ => by rw [h]; rfl) (fun π rs kx x hp hB => ?_) h⟩
  obtain ⟨d, y, rfl, n, hy, hs, q⟩ := hB
  dsimp only [uns, List.replicate, List.cons_append, List.nil_append]
  repeat walk_at "wk"
  refine wcb_W0 (rs := [.d d]) rfl rfl ⟨d, y, rfl, n, hy, hs, fun z => (by cases z), ?_⟩
  repeat walk_at "wk"
  refine ws_raise1 rfl rfl ?_
  repeat walk_at "wk"
  exact ⟨_, _, rfl, rfl, q⟩
/-- all that Gift(..) raises -/
def bGiftA (K : PySem.W.Frag) (R M N I : Addr) (rs : List Rv) (kx : Kx) : Prop := bGiftN R M N rs kx ∨ bGift0 R I rs kx ∨ bGiftX K R M I rs kx
theorem b_GiftA (T : Txt W.K W.mg a) : BodyX W 6 N_Gift_init "Gift.__init__" s_Gift_init (spIX a.Gift false (bGiftA W.K a.Ratio a.Move a.InvalidNumber a.InvalidMoves)) := fun f cdv A outer s H vs Q E hr h => by
  rcases spIX_or h with h | h
  · exact b_GiftN T f cdv A outer s H vs Q E hr h
  · rcases spIX_or h with h | h
    · exact b_Gift0 T f cdv A outer s H vs Q E hr h
    · exact b_GiftX T f cdv A outer s H vs Q E hr h
abbrev spGift (W : Wd) (a : Ad) : Sp := spU (spI a.Gift false (BStar 1 (bGift a.Gift a.Ratio a.Move))) (spIX a.Gift false (BStar 1 (bGiftA W.K a.Ratio a.Move a.InvalidNumber a.InvalidMoves)))
theorem m_GiftU (T : Txt W.K W.mg a) : MakR W (CXW W) 7 "Gift" a.Gift (spGift W a) := by
  obtain ⟨f, fd, F, M⟩ := T.d_Gift_init.ex
  obtain ⟨oc, od, dV, kV, doc, pm, an, cdv, ct, osl, rfl, lk, hcd, hD, hK⟩ := F.ex
  have hd0 : dV = .none := by
    rcases hD with ⟨_, h⟩ | ⟨h, _⟩
    · exact h
    · exact absurd rfl h
  subst hd0
  refine ⟨f, M, FnR.imp (StX.fn_star (ps := ["self", "amount"]) (pv := "moves") (k := 6) lk hcd sc_Gift_init StX.cxUp (StX.bind_star2 (B := fun us => bindArgs (PySem.W.fnOf "__init__" "Gift.__init__" (defArgs s_Gift_init) (defBody s_Gift_init) (defScope s_Gift_init) .none kV doc pm an cdv ct) ⟨us, []⟩) (fun a b => rfl) (fun a b r rs => rfl))
    (sp := spU (spI a.Gift false (bGift a.Gift a.Ratio a.Move)) (spIX a.Gift false (bGiftA W.K a.Ratio a.Move a.InvalidNumber a.InvalidMoves))) (fun A outer s H vs Q E hr h => body_U (b_Gift T) (b_GiftA T) f cdv A outer s H vs Q E hr h)) (fun vs H Q E h => ?_), T.o_Gift.mg⟩
  rcases h with h | h
  · obtain ⟨ws, rest, e1, e2, e3, q⟩ := star_I h
    exact ⟨ws, rest, e1, e2, e3, fun p hp => .inl (q p hp)⟩
  · obtain ⟨ws, rest, e1, e2, e3, q⟩ := star_IX h
    exact ⟨ws, rest, e1, e2, e3, fun p hp => .inr (q p hp)⟩
end Lw
namespace Dt
open PySem PySem.Spec PyProof.Rows L2 Ly
structure MOk (m : M3) : Prop where
  t : nmB m.1 = true
  s : nmB m.2.1 = true
  g : nmB m.2.2 = true
  ne : m.2.2 ≠ m.2.1
theorem brk_one (m : M3) (h : MOk m) : brk [some m] = none := by
  show (if m.2.1 ≠ m.2.1 ∨ m.2.2 ∈ [m.2.1] then some 0 else brk1 [] ([m.2.1] ++ [m.2.2]) m.2.2 (0 + 1)) = none
  rw [if_neg (fun z => z.elim (fun z => z rfl) fun z => h.ne (List.mem_singleton.mp z))]
  rfl
theorem spX_or {pt : Bool} {B1 B2 : List Rv → Kx → Prop} {vs : List V} {H : Hp} {Q : VK} {E : XK} (h : spX pt (fun rs k => B1 rs k ∨ B2 rs k) vs H Q E) : spU (spX pt B1) (spX pt B2) vs H Q E := by
  obtain ⟨π, X, rs, kx, h1, h2, h3, h4, b, h5⟩ := h
  exact b.elim (fun b => .inl ⟨π, X, rs, kx, h1, h2, h3, h4, b, h5⟩) fun b => .inr ⟨π, X, rs, kx, h1, h2, h3, h4, b, h5⟩
end Dt
namespace Lw
open PySem PySem.Spec PyProof.Rows L2 Ly Dt
local macro_rules | `(tactic| walk_at "wk") => `(tactic| first
  | ((with_reducible refine' w_var ?hv ?hn ?_); (case hv => exact rfl); (case hn => (intro z; cases z)))
  | with_reducible refine w_int ?_
  | with_reducible refine w_str ?_
  | with_reducible refine w_op ?_
  | with_reducible refine wa_cons ?_
  | with_reducible refine wa_nil ?_
  | with_reducible refine w_reprL ?_
  | with_reducible refine w_isi2 ?_
  | with_reducible refine w_cb ?_
  | with_reducible refine w_call ?_
  | ((with_reducible refine' ws_retV ?hv ?_); (case hv => exact rfl))
  | with_reducible refine ws_seq ?_
  | with_reducible refine ws_asg ?_
  | with_reducible refine ws_ret ?_
  | with_reducible refine ws_if ?_
  | with_reducible refine ws_next ?_
  | ((with_reducible refine' ws_append ?hv ?hz ?_); (case hv => exact rfl); rotate_left)
  | with_reducible refine ws_drop ?_
  | with_reducible refine ws_retN ?_
  | ((with_reducible refine wg_d ?_); dsimp only [List.set])
  | ((with_reducible refine wg_raw ?_); dsimp only [List.set])
  | ((with_reducible refine wg_E ?_))
  | ((with_reducible refine' we_tup ?hl ?_); (case hl => exact rfl))
  | with_reducible refine wes_cons ?_
  | with_reducible refine wes_nil ?_
  | ((with_reducible refine we_name ?_); dsimp only [List.set])
  | with_reducible refine out_d ?_
  | with_reducible refine out_new ?_
  | with_reducible refine ex_bl ?_
  | with_reducible refine ite_t ?_
  | ((with_reducible refine ex_fzd ?_); dsimp only [List.set, List.nil_append, List.cons_append])
  | ((with_reducible refine ex_fzn ?_); dsimp only [List.set, List.nil_append, List.cons_append])
  | with_reducible refine ite_nt ?_
  | with_reducible refine ite_nf ?_
  | with_reducible refine ite_f ?_
  | with_reducible refine wt_tb ?_
  | with_reducible refine wt_test ?_
  | with_reducible refine wt_and ?_
  | with_reducible refine wt_or ?_
  | with_reducible refine wt_not ?_
  | with_reducible refine w_andV ?_
  | with_reducible refine w_orV ?_
  | with_reducible refine w_notV ?_
  | with_reducible refine w_if ?_
  | with_reducible refine w_bl ?_
  | with_reducible refine w_non ?_
  | with_reducible refine w_ty ?_
  | with_reducible refine w_ref ?_
  | with_reducible refine w_un ?_
  | ((with_reducible refine w_tup ?_); skip)
  | ((with_reducible refine w_lst ?_); skip)
  | ((with_reducible refine' Exists.intro _ (And.intro ?hf (And.intro ?hl ?_))); (case hf => exact rfl); (case hl => exact Nat.le_of_ble_eq_true rfl))
  | with_reducible refine w_fld ?_
  | ((with_reducible refine' fld_of ?ho ?c ?n ?l ?_); (case ho => exact rfl); (case c => assumption); (case n => with_reducible assumption); (case l => exact rfl))
  | with_reducible refine wp_top ?_
  | with_reducible refine wp_bot ?_
  | with_reducible refine w_prop ?_
  | with_reducible refine w_meth ?_
  | with_reducible refine w_smeth ?_
  | with_reducible refine wop_addI ?_
  | with_reducible refine wop_subI ?_
  | ((with_reducible refine' wop_mulI ?c ?_); rotate_left)
  | ((with_reducible refine' wop_fdI ?c ?_); rotate_left)
  | with_reducible refine wop_mdI (by first | decide | assumption) ?_
  | ((with_reducible refine' wop_mdI ?c ?_); rotate_left)
  | ((with_reducible refine' wop_I0 ?e ?_); (case e => exact rfl))
  | ((with_reducible refine' wop_ixT ?e ?_); (case e => exact rfl))
  | ((with_reducible refine' wcb_lenL ?e ?_); (case e => exact rfl))
  | with_reducible refine wcb_lenT ?_
  | ((with_reducible refine' wop_fdX ?c ?_); rotate_left)
  | ((with_reducible refine' wun_U ?e ?_); (case e => exact rfl))
  | with_reducible refine wop_eqI ?_
  | with_reducible refine wop_neI ?_
  | with_reducible refine wop_eqS ?_
  | with_reducible refine wop_neS ?_
  | with_reducible refine wop_isN ?_
  | with_reducible refine wop_notN ?_
  | ((with_reducible refine' wop_inS ?e ?_); (case e => exact rfl))
  | ((with_reducible refine' wop_niS ?e ?_); (case e => exact rfl))
  | with_reducible refine wop_inST ?_
  | with_reducible refine wcb_gcd ?_
  | with_reducible refine wcb_abs ?_
  | with_reducible refine wcb_max2 ?_
  | with_reducible refine wcb_min2 ?_
  | with_reducible refine wcb_int ?_
  | ((with_reducible refine' wcb_isi (b := true) ?ho ?hb ?_); (case ho => exact rfl); (case hb => (dsimp only [tyN]; decide +kernel)))
  | ((with_reducible refine' wcb_isi (b := false) ?ho ?hb ?_); (case ho => exact rfl); (case hb => (dsimp only [tyN]; decide +kernel)))
  | ((with_reducible refine' wcb_listOf ?e ?_); (case e => exact rfl))
  | with_reducible refine wcb_listOfT ?_
  | ((with_reducible refine' wcb_tupOf ?e ?_); (case e => exact rfl))
  | with_reducible refine w_chain ?_
  | with_reducible refine wcb_strS ?_
  | ((with_reducible refine' wcb_lenD ?e ?_); (case e => exact rfl))
  | ((with_reducible refine' wcb_listD ?e ?_); (case e => exact rfl))
  | with_reducible refine w_dnewK ?_
  | with_reducible refine w_dget ?_
  | with_reducible refine w_din ?_
  | with_reducible refine w_dni ?_
  | with_reducible refine w_lenSet ?_
  | with_reducible refine w_listVals ?_
  | with_reducible refine w_chain ?_
  | ((with_reducible refine' wt_yes ?_)))
variable {W : Wd} {a : Ad}
def bSingle (G R M : Addr) (rs : List Rv) (k : Rv → Prop) : Prop := ∃ d q m, rs = [.d d, .d (.str m.1), .d (.str m.2.1), .d (.str m.2.2)] ∧ NumQ R d q ∧ 0 < q.num ∧ Sz 4000 q.num ∧ MOk m ∧ k (.d (gfD G R M q [m]))
theorem b_single (T : Txt W.K W.mg a) : BodyOk W 8 N_Gift_single "Gift.single" s_Gift_single (spW false (bSingle a.Gift a.Ratio a.Move)) := by
  refine body_W (n := 4) (m := 0) rfl (fun rs k ⟨_, _, _, h, _⟩ => by rw [h]; rfl) fun f cdv A outer s H E hr => ⟨_, (pss_cons (ps_expr (pe_cl (k_check_gift_amount T) hr (by decide) rfl (pa_cons (pv 0) pa_nil))) (pss_one (ps_ret (pe_mkR (m_Gift T) hr (by decide) rfl (pa_cons (pv 0) (pa_cons (pe_mak (m_Move3 T) hr (by decide) rfl (pa_cons (pv 1) (pa_cons (pv 2) (pa_cons (pv 3) pa_nil)))) pa_nil)))))), fun π rs kr hp hB => ?_⟩
  obtain ⟨d, x, m, rfl, n, hx, hs, om, q⟩ := hB
  dsimp only [uns, List.replicate, List.cons_append, List.nil_append]
  repeat walk_at "wk"
  refine wcb_W0 (rs := [.d d]) rfl rfl ⟨d, x, rfl, n, hx, hs, fun z => (by cases z), ?_⟩
  repeat walk_at "wk"
  refine w_makeR ?_
  repeat walk_at "wk"
  refine w_make (drs := []) trivial ?_
  repeat walk_at "wk"
  refine ⟨_, rfl, rfl, rfl, m.1, m.2.1, m.2.2, rfl, om.t, om.s, om.g, om.ne, ?_⟩
  repeat walk_at "wk"
  exact ⟨_, rfl, rfl, [.d d], [mvT a.Move m], rfl, rfl, by simp, d, x, [m], rfl, n, hx, hs, by simp, by simp, brk_one m om, out_d q⟩
def bSingleN (R M I : Addr) (rs : List Rv) (kx : Kx) : Prop := ∃ x t s g, rs = [.d x, .d t, .d s, .d g] ∧ AmtX R M x ∧ kx I [("value", x)]
theorem b_singleN (T : Txt W.K W.mg a) : BodyX W 8 N_Gift_single "Gift.single" s_Gift_single (spX false (bSingleN a.Ratio a.Move a.InvalidNumber)) := by
  refine body_X (n := 4) (m := 0) rfl (fun rs k ⟨_, _, _, _, h, _⟩ => by rw [h]; rfl) fun f cdv A outer s H E hr => ⟨_, (pss_cons (ps_expr (pe_clx (k_check_gift_amountX T) takes_x (fun _ _ _ _ h => h) hr (by decide) rfl (pa_cons (pv 0) pa_nil))) (pss_one (ps_ret (pe_mkRx (m_GiftU T) takes_x (fun _ _ _ _ h => h) hr (by decide) rfl (pa_cons (pv 0) (pa_cons (pe_mkRx (m_MoveU T) takes_x (fun _ _ _ _ h => h) hr (by decide) rfl (pa_cons (pv 1) (pa_cons (pv 2) (pa_cons (pv 3) pa_nil)))) pa_nil)))))), fun π rs kx hp hB => ?_⟩
  obtain ⟨d, t, s, g, rfl, n, q⟩ := hB
  dsimp only [uns, List.replicate, List.cons_append, List.nil_append]
  refine ws_seq (ws_dropX (wx_call ?_))
  repeat walk_at "wk"
  exact wcb_X (rs := [.d d]) rfl rfl ⟨d, rfl, n, q⟩
def bSingleM (R I : Addr) (rs : List Rv) (kx : Kx) : Prop := ∃ d q t s g x, rs = [.d d, .d t, .d s, .d g] ∧ NumQ R d q ∧ 0 < q.num ∧ Sz 4000 q.num ∧ Nd R t ∧ Nd R s ∧ Nd R g ∧ mvBad t s g = some x ∧ kx I [("value", x)]
theorem b_singleM (T : Txt W.K W.mg a) : BodyX W 8 N_Gift_single "Gift.single" s_Gift_single (spX false (bSingleM a.Ratio a.InvalidName)) := by
  refine body_X (n := 4) (m := 0) rfl (fun rs k ⟨_, _, _, _, _, _, h, _⟩ => by rw [h]; rfl) fun f cdv A outer s H E hr => ⟨_, (pss_cons (ps_expr (pe_cl (k_check_gift_amount T) hr (by decide) rfl (pa_cons (pv 0) pa_nil))) (pss_one (ps_ret (pe_mkRx (m_GiftU T) takes_x (fun _ _ _ _ h => h) hr (by decide) rfl (pa_cons (pv 0) (pa_cons (pe_mkRx (m_MoveU T) takes_x (fun _ _ _ _ h => h) hr (by decide) rfl (pa_cons (pv 1) (pa_cons (pv 2) (pa_cons (pv 3) pa_nil)))) pa_nil)))))), fun π rs kx hp hB => ?_⟩
  obtain ⟨d, y, t, s, g, x, rfl, n, hy, hs, h1, h2, h3, hb, q⟩ := hB
  dsimp only [uns, List.replicate, List.cons_append, List.nil_append]
  repeat walk_at "wk"
  refine wcb_W0 (rs := [.d d]) rfl rfl ⟨d, y, rfl, n, hy, hs, fun z => (by cases z), ?_⟩
  refine ws_retX (wx_makeUX (wax_cons (Wp.x ?_)))
  repeat walk_at "wk"
  refine wax_cons (wx_makeU ?_)
  repeat walk_at "wk"
  exact ⟨_, rfl, rfl, .inr ⟨t, s, g, x, rfl, h1, h2, h3, hb, q⟩⟩
abbrev spSingle (a : Ad) : Sp := spU (spW false (bSingle a.Gift a.Ratio a.Move)) (spX false fun rs k => bSingleN a.Ratio a.Move a.InvalidNumber rs k ∨ bSingleM a.Ratio a.InvalidName rs k)
theorem sm_singleU (T : Txt W.K W.mg a) : Smx W 9 a.Gift "single" (spSingle a) :=
  smx_of T.d_Gift_single sc_Gift_single bd_Gift_single (len_U (len_W fun rs k ⟨_, _, _, h, _⟩ => by rw [h]; rfl) (len_X fun rs k h => by rcases h with ⟨_, _, _, _, h, _⟩ | ⟨_, _, _, _, _, _, h, _⟩ <;> (rw [h]; rfl)))
    (body_U (b_single T) fun f cdv A outer s H vs Q E hr h => (spX_or h).elim (b_singleN T f cdv A outer s H vs Q E hr) (b_singleM T f cdv A outer s H vs Q E hr))
end Lw
namespace Lw
open PySem PySem.Spec PyProof.Rows L2 Ly Dt LamX
local macro_rules | `(tactic| walk_at "wk") => `(tactic| first
  | ((with_reducible refine' w_var ?hv ?hn ?_); (case hv => exact rfl); (case hn => (intro z; cases z)))
  | with_reducible refine w_int ?_
  | with_reducible refine w_str ?_
  | with_reducible refine w_op ?_
  | with_reducible refine wa_cons ?_
  | with_reducible refine wa_nil ?_
  | with_reducible refine w_reprL ?_
  | with_reducible refine w_isi2 ?_
  | with_reducible refine w_cb ?_
  | with_reducible refine w_call ?_
  | ((with_reducible refine' ws_retV ?hv ?_); (case hv => exact rfl))
  | with_reducible refine ws_seq ?_
  | with_reducible refine ws_asg ?_
  | with_reducible refine ws_ret ?_
  | with_reducible refine ws_if ?_
  | with_reducible refine ws_next ?_
  | ((with_reducible refine' ws_append ?hv ?hz ?_); (case hv => exact rfl); rotate_left)
  | with_reducible refine ws_drop ?_
  | with_reducible refine ws_retN ?_
  | ((with_reducible refine wg_d ?_); dsimp only [List.set])
  | ((with_reducible refine wg_raw ?_); dsimp only [List.set])
  | ((with_reducible refine wg_E ?_))
  | ((with_reducible refine' we_tup ?hl ?_); (case hl => exact rfl))
  | with_reducible refine wes_cons ?_
  | with_reducible refine wes_nil ?_
  | ((with_reducible refine we_name ?_); dsimp only [List.set])
  | with_reducible refine out_d ?_
  | with_reducible refine out_new ?_
  | with_reducible refine ex_bl ?_
  | with_reducible refine ite_t ?_
  | ((with_reducible refine ex_fzd ?_); dsimp only [List.set, List.nil_append, List.cons_append])
  | ((with_reducible refine ex_fzn ?_); dsimp only [List.set, List.nil_append, List.cons_append])
  | with_reducible refine ite_nt ?_
  | with_reducible refine ite_nf ?_
  | with_reducible refine ite_f ?_
  | with_reducible refine wt_tb ?_
  | with_reducible refine wt_test ?_
  | with_reducible refine wt_and ?_
  | with_reducible refine wt_or ?_
  | with_reducible refine wt_not ?_
  | with_reducible refine w_andV ?_
  | with_reducible refine w_orV ?_
  | with_reducible refine w_notV ?_
  | with_reducible refine w_if ?_
  | with_reducible refine w_bl ?_
  | with_reducible refine w_non ?_
  | with_reducible refine w_ty ?_
  | with_reducible refine w_ref ?_
  | with_reducible refine w_un ?_
  | ((with_reducible refine w_tup ?_); skip)
  | ((with_reducible refine w_lst ?_); skip)
  | ((with_reducible refine' Exists.intro _ (And.intro ?hf (And.intro ?hl ?_))); (case hf => exact rfl); (case hl => exact Nat.le_of_ble_eq_true rfl))
  | with_reducible refine w_fld ?_
  | ((with_reducible refine' fld_of ?ho ?c ?n ?l ?_); (case ho => exact rfl); (case c => assumption); (case n => with_reducible assumption); (case l => exact rfl))
  | with_reducible refine wp_top ?_
  | with_reducible refine wp_bot ?_
  | with_reducible refine w_prop ?_
  | with_reducible refine w_meth ?_
  | with_reducible refine w_smeth ?_
  | with_reducible refine wop_addI ?_
  | with_reducible refine wop_subI ?_
  | ((with_reducible refine' wop_mulI ?c ?_); rotate_left)
  | ((with_reducible refine' wop_fdI ?c ?_); rotate_left)
  | with_reducible refine wop_mdI (by first | decide | assumption) ?_
  | ((with_reducible refine' wop_mdI ?c ?_); rotate_left)
  | ((with_reducible refine' wop_I0 ?e ?_); (case e => exact rfl))
  | ((with_reducible refine' wop_ixT ?e ?_); (case e => exact rfl))
  | ((with_reducible refine' wcb_lenL ?e ?_); (case e => exact rfl))
  | with_reducible refine wcb_lenT ?_
  | ((with_reducible refine' wop_fdX ?c ?_); rotate_left)
  | ((with_reducible refine' wun_U ?e ?_); (case e => exact rfl))
  | with_reducible refine wop_eqI ?_
  | with_reducible refine wop_neI ?_
  | with_reducible refine wop_eqS ?_
  | with_reducible refine wop_neS ?_
  | with_reducible refine wop_isN ?_
  | with_reducible refine wop_notN ?_
  | ((with_reducible refine' wop_inS ?e ?_); (case e => exact rfl))
  | ((with_reducible refine' wop_niS ?e ?_); (case e => exact rfl))
  | with_reducible refine wop_inST ?_
  | with_reducible refine wcb_gcd ?_
  | with_reducible refine wcb_abs ?_
  | with_reducible refine wcb_max2 ?_
  | with_reducible refine wcb_min2 ?_
  | with_reducible refine wcb_int ?_
  | ((with_reducible refine' wcb_isi (b := true) ?ho ?hb ?_); (case ho => exact rfl); (case hb => (dsimp only [tyN]; decide +kernel)))
  | ((with_reducible refine' wcb_isi (b := false) ?ho ?hb ?_); (case ho => exact rfl); (case hb => (dsimp only [tyN]; decide +kernel)))
  | ((with_reducible refine' wcb_listOf ?e ?_); (case e => exact rfl))
  | with_reducible refine wcb_listOfT ?_
  | ((with_reducible refine' wcb_tupOf ?e ?_); (case e => exact rfl))
  | with_reducible refine w_chain ?_
  | with_reducible refine wcb_strS ?_
  | ((with_reducible refine' wcb_lenD ?e ?_); (case e => exact rfl))
  | ((with_reducible refine' wcb_listD ?e ?_); (case e => exact rfl))
  | with_reducible refine w_dnewK ?_
  | with_reducible refine w_dget ?_
  | with_reducible refine w_din ?_
  | with_reducible refine w_dni ?_
  | with_reducible refine w_lenSet ?_
  | with_reducible refine w_listVals ?_
  | with_reducible refine w_chain ?_
  | ((with_reducible refine' wt_yes ?_)))
variable {W : Wd} {a : Ad}
def handT (a : Ad) : Po → Kx → (Rv → Prop) → Prop := fun _ kx R => ∀ C fds, kx C fds →
  (C = a.InvalidName ∧ ∃ v t, fds = [(("value" : Str), v)] ∧ RtX a.Ratio a.Move v t ∧ R (.new (.lst [.str "name", .str t, .bl true]))) ∨
  (C = a.InvalidNumber ∧ ∃ v t, fds = [(("value" : Str), v)] ∧ RtX a.Ratio a.Move v t ∧ R (.new (.lst [.str "number", .str t, .bl true]))) ∨
  (C = a.InvalidMoves ∧ ∃ v t, fds = [(("position" : Str), v)] ∧ RtX a.Ratio a.Move v t ∧ R (.new (.lst [.str "moves", .str t, .bl true])))
def normT : Po → (Rv → Prop) → Prop := fun _ R => R (.new (.lst [.str "ok"]))
theorem told_gives (T : Txt W.K W.mg a) {N0 : List Str} {qual : Str} {scope : Scope} {f0 : Addr} {cdv : Value} {A : Around} {outer : List Env} {s0 : Shared} {H0 : Hp} {E0' : XK} {g : Addr} {cdg : Value} {q : Str}
    (hr0 : Room 9 (A.deeper (envOfC qual scope s0.heap.objs.size f0 cdv))) (hgd0 : (A.deeper (envOfC qual scope s0.heap.objs.size f0 cdv)).guards = some []) :
    GivesTo (cxOf CX0 W.P W.w W.K W.mg W.base N0 qual scope f0 cdv A outer s0 H0 E0').nox N_law_met "_law_met" (defScope s_law_met) g cdg (defBody s_law_met) "_law_call" q (TTo W.K (handT a) normT) := by
  intro f c' s H Q tl act hc h
  obtain ⟨π, X1, kx, nm, R, ok, TLh, hn, hh, hq⟩ := h
  have hr : Room 8 ((A.deeper (envOfC qual scope s0.heap.objs.size f0 cdv)).deeper (envOfC "_law_met" (defScope s_law_met) s.heap.objs.size g cdg)) := Room.deeper hr0 _
  have hgd : ((A.deeper (envOfC qual scope s0.heap.objs.size f0 cdv)).deeper (envOfC "_law_met" (defScope s_law_met) s.heap.objs.size g cdg)).guards = some [] := hgd0
  refine ⟨_, (pss_cons (ps_set (i := 1) sc_law_met.nd rfl (Or.inl rfl) (pe_lst (pa_cons pe_str pa_nil))) (pss_cons (ps_tryE rfl rfl sc_law_met.nd (i := 2) (n := "e") rfl rfl (fun W0 pn_ xe_ E_ tk hW => (act _ pn_ xe_ E_ _ _ tk hW)) rfl (HdsAs.cons ⟨rfl, by decide, .inl T.e_InvalidName.mg⟩ (fun x_ oe_ cls_ d_ pn_ hz hf => (pss_one (ps_set (i := 1) sc_law_met.nd rfl (Or.inl rfl) (pe_lst (pa_cons pe_str (pa_cons (pe_callB (r := rRepX W.K a.Ratio a.Move) (call_repX T (roomN_mark hr) (by decide) hgd) (by rfl) T.b_repr (by decide +kernel) (pa_cons (pe_xf (C := a.InvalidName) ⟨T.e_InvalidName.xk.ga, T.e_InvalidName.xk.gg, T.e_InvalidName.xk.exC, T.e_InvalidName.xk.hd⟩ T.n_InvalidName_value hz hf (pv 2)) pa_nil)) (pa_cons (pe_and (pe_callB (call_isEdV T.e_InvalidName.xk hz hf) (by rfl) T.b_isinstance (by decide +kernel) (pa_cons (pv 2) (pa_cons (pe_gn (v := .ref a.LoadError) (by rfl) T.l_LoadError rfl) pa_nil))) (pe_one (pe_callB (call_isEdV T.e_InvalidName.xk hz hf) (by rfl) T.b_isinstance (by decide +kernel) (pa_cons (pv 2) (pa_cons (pe_bltn (by rfl) T.b_ValueError (by decide +kernel) (v := .ty "ValueError") rfl) pa_nil))))) pa_nil))))))) (HdsAs.cons ⟨rfl, by decide, .inl T.e_InvalidNumber.mg⟩ (fun x_ oe_ cls_ d_ pn_ hz hf => (pss_one (ps_set (i := 1) sc_law_met.nd rfl (Or.inl rfl) (pe_lst (pa_cons pe_str (pa_cons (pe_callB (r := rRepX W.K a.Ratio a.Move) (call_repX T (roomN_mark hr) (by decide) hgd) (by rfl) T.b_repr (by decide +kernel) (pa_cons (pe_xf (C := a.InvalidNumber) ⟨T.e_InvalidNumber.xk.ga, T.e_InvalidNumber.xk.gg, T.e_InvalidNumber.xk.exC, T.e_InvalidNumber.xk.hd⟩ T.n_InvalidNumber_value hz hf (pv 2)) pa_nil)) (pa_cons (pe_and (pe_callB (call_isEdV T.e_InvalidNumber.xk hz hf) (by rfl) T.b_isinstance (by decide +kernel) (pa_cons (pv 2) (pa_cons (pe_gn (v := .ref a.LoadError) (by rfl) T.l_LoadError rfl) pa_nil))) (pe_one (pe_callB (call_isEdV T.e_InvalidNumber.xk hz hf) (by rfl) T.b_isinstance (by decide +kernel) (pa_cons (pv 2) (pa_cons (pe_bltn (by rfl) T.b_ValueError (by decide +kernel) (v := .ty "ValueError") rfl) pa_nil))))) pa_nil))))))) (HdsAs.cons ⟨rfl, by decide, .inl T.e_InvalidMoves.mg⟩ (fun x_ oe_ cls_ d_ pn_ hz hf => (pss_one (ps_set (i := 1) sc_law_met.nd rfl (Or.inl rfl) (pe_lst (pa_cons pe_str (pa_cons (pe_callB (r := rRepX W.K a.Ratio a.Move) (call_repX T (roomN_mark hr) (by decide) hgd) (by rfl) T.b_repr (by decide +kernel) (pa_cons (pe_xf (C := a.InvalidMoves) ⟨T.e_InvalidMoves.xk.ga, T.e_InvalidMoves.xk.gg, T.e_InvalidMoves.xk.exC, T.e_InvalidMoves.xk.hd⟩ T.n_InvalidMoves_position hz hf (pv 2)) pa_nil)) (pa_cons (pe_and (pe_callB (call_isEdV T.e_InvalidMoves.xk hz hf) (by rfl) T.b_isinstance (by decide +kernel) (pa_cons (pv 2) (pa_cons (pe_gn (v := .ref a.LoadError) (by rfl) T.l_LoadError rfl) pa_nil))) (pe_one (pe_callB (call_isEdV T.e_InvalidMoves.xk hz hf) (by rfl) T.b_isinstance (by decide +kernel) (pa_cons (pv 2) (pa_cons (pe_bltn (by rfl) T.b_ValueError (by decide +kernel) (v := .ty "ValueError") rfl) pa_nil))))) pa_nil))))))) HdsAs.nil)))) (pss_one (ps_ret (pv 1))))), ?_⟩
  refine told_runE (tl := tl) (q := q) (f := f) (c' := c') (n := 3) (m := 2) (i := 2) rfl rfl ok hc TLh ?_ (fun C fds hk x dd => ?_) hq
  · dsimp only [uns, List.replicate]
    repeat walk_at "wk"
    refine wg_new fun p => ⟨rfl, fun h => ?_⟩
    repeat walk_at "wk"
    exact hn h
  · rcases hh C fds hk with ⟨rfl, v, t, rfl, hv, hR⟩ | ⟨rfl, v, t, rfl, hv, hR⟩ | ⟨rfl, v, t, rfl, hv, hR⟩
    · refine ⟨true, T.h_11, fun _ => ?_, fun z => by cases z⟩
      dsimp only [uns, List.replicate, List.set]
      repeat walk_at "wk"
      refine w_xf rfl rfl ?_
      repeat walk_at "wk"
      refine wcb_repX hv ?_
      repeat walk_at "wk"
      refine wcb_isXV rfl rfl (fun u hu => by cases hu; rfl) T.i_1 ?_
      repeat walk_at "wk"
      refine wcb_isXV rfl rfl (fun u hu => by cases hu; rfl) T.j_1 ?_
      repeat walk_at "wk"
      refine wg_new fun p => ?_
      dsimp only [List.set]
      repeat walk_at "wk"
      exact hR
    · refine ⟨false, T.h_21, fun z => (by cases z), fun _ => ⟨true, T.h_22, fun _ => ?_, fun z => (by cases z)⟩⟩
      dsimp only [uns, List.replicate, List.set]
      repeat walk_at "wk"
      refine w_xf rfl rfl ?_
      repeat walk_at "wk"
      refine wcb_repX hv ?_
      repeat walk_at "wk"
      refine wcb_isXV rfl rfl (fun u hu => by cases hu; rfl) T.i_2 ?_
      repeat walk_at "wk"
      refine wcb_isXV rfl rfl (fun u hu => by cases hu; rfl) T.j_2 ?_
      repeat walk_at "wk"
      refine wg_new fun p => ?_
      dsimp only [List.set]
      repeat walk_at "wk"
      exact hR
    · refine ⟨false, T.h_31, fun z => (by cases z), fun _ => ⟨false, T.h_32, fun z => (by cases z), fun _ => ⟨true, T.h_33, fun _ => ?_, fun z => (by cases z)⟩⟩⟩
      dsimp only [uns, List.replicate, List.set]
      repeat walk_at "wk"
      refine w_xf rfl rfl ?_
      repeat walk_at "wk"
      refine wcb_repX hv ?_
      repeat walk_at "wk"
      refine wcb_isXV rfl rfl (fun u hu => by cases hu; rfl) T.i_3 ?_
      repeat walk_at "wk"
      refine wcb_isXV rfl rfl (fun u hu => by cases hu; rfl) T.j_3 ?_
      repeat walk_at "wk"
      refine wg_new fun p => ?_
      dsimp only [List.set]
      repeat walk_at "wk"
      exact hR
end Lw
namespace Dt
open PySem PySem.Spec PyProof.Rows L2 Ly LamX
/-- the signs of a text -/
def sgn (x : Str) : List D := x.cps.toList.map fun c => .str ⟨#[c]⟩
theorem sgn_len (x : Str) : (sgn x).length = x.length := by
  unfold sgn
  rw [List.length_map, Array.length_toList]
  rfl
theorem itw_sgn {π : Po} {X : Xs} {H : Hp} {x : Str} : Itw π (Its x) X H Any (sgn x) := by
  refine ⟨fun i X' H' f _ hi => ?_, fun i X' H' f _ hi => ?_⟩
  · rw [sgn_len] at hi
    refine ⟨hi, fun v H'' y ok => ?_⟩
    obtain ⟨rfl, c, hc, rfl⟩ := y
    refine ⟨ok.kp, _, ?_, At.str _⟩
    unfold sgn
    rw [List.getElem?_map, Array.getElem?_toList, hc]
    rfl
  · rw [sgn_len] at hi
    exact hi
theorem wi_str {π : Po} {te : TE} {δ : List Rv} {k : List D → Prop} (q : Wp π te δ fun r => ∃ x, r = .d (.str x) ∧ k (sgn x)) : WpI π (iStr te) δ k := fun X H σ R o e h => by
  refine q X H σ _ o e fun v r H1 k1 a w => ?_
  obtain ⟨x, rfl, kd⟩ := w
  cases a
  exact ⟨x, rfl, h _ H1 _ k1 itw_sgn kd⟩
theorem wop_inSg {π : Po} {k : Rv → Prop} {c : Nat} {z : Str} (q : k (.d (.bl (decide (c ∈ z.cps.toList))))) : WOp π rInSg (.d (.str ⟨#[c]⟩)) (.d (.str z)) k := fun X H0 H x y Q o0 o k0 ra rb h => by
  cases ra; cases rb
  exact ⟨c, z, rfl, rfl, h _ (.d (.bl _)) H o.kp (At.bl _) q⟩
theorem abc_low (c : Nat) : decide (c ∈ (("abcdefghijklmnopqrstuvwxyz" : Str)).cps.toList) = lowB c := by
  rw [show (("abcdefghijklmnopqrstuvwxyz" : Str)).cps.toList = (List.range 26).map (97 + ·) by decide +kernel]
  by_cases h : 97 ≤ c ∧ c ≤ 122
  · rw [decide_eq_true (List.mem_map.mpr ⟨c - 97, List.mem_range.mpr (by omega), by omega⟩)]
    unfold lowB
    rw [decide_eq_true h.1, decide_eq_true h.2]
    rfl
  · rw [decide_eq_false fun z => h (by obtain ⟨i, hi, e⟩ := List.mem_map.mp z; have := List.mem_range.mp hi; omega)]
    unfold lowB
    by_cases h1 : 97 ≤ c
    · rw [decide_eq_true h1, decide_eq_false (show ¬ c ≤ 122 by omega)]
      rfl
    · rw [decide_eq_false h1]
      rfl
end Dt
namespace Lw
open PySem PySem.Spec PyProof.Rows L2 Ly Dt LamX
local macro_rules | `(tactic| walk_at "wk") => `(tactic| first
  | ((with_reducible refine' w_var ?hv ?hn ?_); (case hv => exact rfl); (case hn => (intro z; cases z)))
  | with_reducible refine w_int ?_
  | with_reducible refine w_str ?_
  | with_reducible refine w_op ?_
  | with_reducible refine wa_cons ?_
  | with_reducible refine wa_nil ?_
  | with_reducible refine w_reprL ?_
  | with_reducible refine w_isi2 ?_
  | with_reducible refine w_cb ?_
  | with_reducible refine w_call ?_
  | ((with_reducible refine' ws_retV ?hv ?_); (case hv => exact rfl))
  | with_reducible refine ws_seq ?_
  | with_reducible refine ws_asg ?_
  | with_reducible refine ws_ret ?_
  | with_reducible refine ws_if ?_
  | with_reducible refine ws_next ?_
  | ((with_reducible refine' ws_append ?hv ?hz ?_); (case hv => exact rfl); rotate_left)
  | with_reducible refine ws_drop ?_
  | with_reducible refine ws_retN ?_
  | ((with_reducible refine wg_d ?_); dsimp only [List.set])
  | ((with_reducible refine wg_raw ?_); dsimp only [List.set])
  | ((with_reducible refine wg_E ?_))
  | ((with_reducible refine' we_tup ?hl ?_); (case hl => exact rfl))
  | with_reducible refine wes_cons ?_
  | with_reducible refine wes_nil ?_
  | ((with_reducible refine we_name ?_); dsimp only [List.set])
  | with_reducible refine out_d ?_
  | with_reducible refine out_new ?_
  | with_reducible refine ex_bl ?_
  | with_reducible refine ite_t ?_
  | ((with_reducible refine ex_fzd ?_); dsimp only [List.set, List.nil_append, List.cons_append])
  | ((with_reducible refine ex_fzn ?_); dsimp only [List.set, List.nil_append, List.cons_append])
  | with_reducible refine ite_nt ?_
  | with_reducible refine ite_nf ?_
  | with_reducible refine ite_f ?_
  | with_reducible refine wt_tb ?_
  | with_reducible refine wt_test ?_
  | with_reducible refine wt_and ?_
  | with_reducible refine wt_or ?_
  | with_reducible refine wt_not ?_
  | with_reducible refine w_andV ?_
  | with_reducible refine w_orV ?_
  | with_reducible refine w_notV ?_
  | with_reducible refine w_if ?_
  | with_reducible refine w_bl ?_
  | with_reducible refine w_non ?_
  | with_reducible refine w_ty ?_
  | with_reducible refine w_ref ?_
  | with_reducible refine w_un ?_
  | ((with_reducible refine w_tup ?_); skip)
  | ((with_reducible refine w_lst ?_); skip)
  | ((with_reducible refine' Exists.intro _ (And.intro ?hf (And.intro ?hl ?_))); (case hf => exact rfl); (case hl => exact Nat.le_of_ble_eq_true rfl))
  | with_reducible refine w_fld ?_
  | ((with_reducible refine' fld_of ?ho ?c ?n ?l ?_); (case ho => exact rfl); (case c => assumption); (case n => with_reducible assumption); (case l => exact rfl))
  | with_reducible refine wp_top ?_
  | with_reducible refine wp_bot ?_
  | with_reducible refine w_prop ?_
  | with_reducible refine w_meth ?_
  | with_reducible refine w_smeth ?_
  | with_reducible refine wop_addI ?_
  | with_reducible refine wop_subI ?_
  | ((with_reducible refine' wop_mulI ?c ?_); rotate_left)
  | ((with_reducible refine' wop_fdI ?c ?_); rotate_left)
  | with_reducible refine wop_mdI (by first | decide | assumption) ?_
  | ((with_reducible refine' wop_mdI ?c ?_); rotate_left)
  | ((with_reducible refine' wop_I0 ?e ?_); (case e => exact rfl))
  | ((with_reducible refine' wop_ixT ?e ?_); (case e => exact rfl))
  | ((with_reducible refine' wcb_lenL ?e ?_); (case e => exact rfl))
  | with_reducible refine wcb_lenT ?_
  | ((with_reducible refine' wop_fdX ?c ?_); rotate_left)
  | ((with_reducible refine' wun_U ?e ?_); (case e => exact rfl))
  | with_reducible refine wop_eqI ?_
  | with_reducible refine wop_neI ?_
  | with_reducible refine wop_eqS ?_
  | with_reducible refine wop_neS ?_
  | with_reducible refine wop_isN ?_
  | with_reducible refine wop_notN ?_
  | ((with_reducible refine' wop_inS ?e ?_); (case e => exact rfl))
  | ((with_reducible refine' wop_niS ?e ?_); (case e => exact rfl))
  | with_reducible refine wop_inST ?_
  | with_reducible refine wcb_gcd ?_
  | with_reducible refine wcb_abs ?_
  | with_reducible refine wcb_max2 ?_
  | with_reducible refine wcb_min2 ?_
  | with_reducible refine wcb_int ?_
  | ((with_reducible refine' wcb_isi (b := true) ?ho ?hb ?_); (case ho => exact rfl); (case hb => (dsimp only [tyN]; decide +kernel)))
  | ((with_reducible refine' wcb_isi (b := false) ?ho ?hb ?_); (case ho => exact rfl); (case hb => (dsimp only [tyN]; decide +kernel)))
  | ((with_reducible refine' wcb_listOf ?e ?_); (case e => exact rfl))
  | with_reducible refine wcb_listOfT ?_
  | ((with_reducible refine' wcb_tupOf ?e ?_); (case e => exact rfl))
  | with_reducible refine w_chain ?_
  | with_reducible refine wcb_strS ?_
  | ((with_reducible refine' wcb_lenD ?e ?_); (case e => exact rfl))
  | ((with_reducible refine' wcb_listD ?e ?_); (case e => exact rfl))
  | with_reducible refine w_dnewK ?_
  | with_reducible refine w_dget ?_
  | with_reducible refine w_din ?_
  | with_reducible refine w_dni ?_
  | with_reducible refine w_lenSet ?_
  | with_reducible refine w_listVals ?_
  | with_reducible refine w_chain ?_
  | ((with_reducible refine' wt_yes ?_)))
variable {W : Wd} {a : Ad}
theorem k_law_is_named (T : Txt W.K W.mg a) : Cl W 2 "_law_is_named" (spW false fun rs k => ∃ x, rs = [.d x] ∧ Nd a.Ratio x ∧ k (.d (.bl (nmD x)))) := by
  refine cl_W T.d_law_is_named sc_law_is_named bd_law_is_named (fun rs k ⟨_, h, _⟩ => by rw [h]; rfl) (body_W (n := 1) (m := 1) rfl (fun rs k ⟨_, h, _⟩ => by rw [h]; rfl) fun f cdv A outer s H E hr => ⟨_, (pss_cons (ps_if (PW.pt (pw_or (pt_not (pt_val (pe_callB (r := rIsi W.K) call_isi (by rfl) T.b_isinstance (by decide +kernel) (pa_cons (pv 0) (pa_cons (pe_bltn (by rfl) T.b_str (by decide +kernel) (v := .ty "str") rfl) pa_nil))))) (pw_or1 (pt_not (pt_chain op_le op_le pe_int (pe_callB (r := Ly.rLen W.K) call_lenU (by rfl) T.b_len (by decide +kernel) (pa_cons (pv 0) pa_nil)) pe_int))))) (pss_one (ps_ret pe_bl)) pss_nil) (pss_one (ps_ret (pe_callB (r := rAll W.K) (cr_all rfl) (by rfl) T.b_all (by decide +kernel) (pa_cons (pe_lc (own := [("_law_sign", 1)]) (g := (gName 1)) (tt := tYes) rfl sc_law_is_named.nd (pi_str (pv 0)) (blkOk_by (N := N_law_is_named) (sc := defScope s_law_is_named) (by decide +kernel)) (fun _ _ _ _ _ => (pg_name (i := 1) sc_law_is_named.nd rfl (Or.inl rfl))) (fun _ _ _ _ _ => pts_nil) (fun _ _ _ _ _ => (pe_cmpR op_inSg (pv 1) pe_str rfl))) pa_nil))))), fun π rs kr hp hB => ?_⟩)
  obtain ⟨x, rfl, ⟨ho, hl⟩, q⟩ := hB
  dsimp only [uns, List.replicate, List.cons_append, List.nil_append]
  repeat walk_at "wk"
  rcases ho with ho | ⟨fs, rfl⟩
  · cases x with
    | str x =>
      have hl := hl x rfl
      have q : kr (.d (.bl (nmB x))) := q
      refine wcb_isi (b := true) rfl rfl ?_
      repeat walk_at "wk"
      refine wcb_lenS hl ?_
      repeat walk_at "wk"
      unfold nmB at q
      by_cases h1 : (1 : Int) ≤ (x.length : Nat)
      · rw [decide_eq_true h1]
        repeat walk_at "wk"
        by_cases h2 : ((x.length : Nat) : Int) ≤ 8
        · rw [decide_eq_true h2]
          repeat walk_at "wk"
          refine w_lcM (j := 1) (by decide) (fun d => match d with | .str y => .bl (y.cps.toList.all lowB) | _ => .non) (wi_str ?_)
          repeat walk_at "wk"
          refine ⟨_, rfl, by rw [sgn_len]; omega, fun d hd => ?_, ?_⟩
          · obtain ⟨c, _, rfl⟩ := List.mem_map.mp hd
            dsimp only [List.map, wipeD, List.set]
            repeat walk_at "wk"
            refine wop_inSg ?_
            rw [abc_low]
            show some (D.bl (lowB c)) = some (D.bl ([c].all lowB))
            rw [List.all_cons, List.all_nil, Bool.and_true]
          repeat walk_at "wk"
          refine wcb_all (bs := x.cps.toList.map lowB) (show some ((sgn x).map _) = some ((x.cps.toList.map lowB).map D.bl) by
            unfold sgn
            rw [List.map_map, List.map_map]
            refine congrArg some (List.map_congr_left fun c _ => ?_)
            show D.bl ([c].all lowB) = D.bl (lowB c)
            rw [List.all_cons, List.all_nil, Bool.and_true]) ?_
          rw [decide_eq_true (show x.length ≤ 8 by omega), decide_eq_true (show 1 ≤ x.length by omega), Bool.true_and, Bool.true_and] at q
          rw [List.all_map, show (_root_.id ∘ lowB) = lowB from rfl]
          exact out_d q
        · rw [decide_eq_false h2]
          repeat walk_at "wk"
          rw [decide_eq_false (show ¬ x.length ≤ 8 by omega)] at q
          exact q
      · rw [decide_eq_false h1]
        repeat walk_at "wk"
        rw [decide_eq_false (show ¬ 1 ≤ x.length by omega), Bool.false_and, Bool.and_false] at q
        exact q
    | obj C fs => cases ho
    | dcT kd => cases ho
    | _ =>
      refine wcb_isi (b := false) rfl rfl ?_
      repeat walk_at "wk"
      exact q
  · refine wcb_isiB T.o_Ratio (by decide +kernel) T.s_Ratio_str ?_
    repeat walk_at "wk"
    exact q
/-- the value can be shown -/
def Tx (R M : Addr) (x : D) : Prop := ∃ t, RtX R M x t ∧ PyData.strOk t = true
open Classical in
/-- the text of a value's repr -/
noncomputable def txOf (R M : Addr) (x : D) : Str := if h : Tx R M x then Classical.choose h else Str.empty
theorem txOf_ok {R M : Addr} {x : D} (h : Tx R M x) : RtX R M x (txOf R M x) ∧ PyData.strOk (txOf R M x) = true := by
  unfold txOf
  rw [dif_pos h]
  exact Classical.choose_spec h
inductive Oc
  | ok
  | err (C : Addr) (f w : Str) (x : D)
noncomputable def lstO (a : Ad) : Oc → List D
  | .ok => [.str "ok"]
  | .err _ _ w x => [.str w, .str (txOf a.Ratio a.Move x), .bl true]
def kxO (o : Oc) : Kx := fun C fds => match o with
  | .ok => False
  | .err C' f _ x => C = C' ∧ fds = [(f, x)]
inductive OcOk (a : Ad) : Oc → Prop
  | ok : OcOk a .ok
  | nam {x : D} (h : Tx a.Ratio a.Move x) : OcOk a (.err a.InvalidName "value" "name" x)
  | num {x : D} (h : Tx a.Ratio a.Move x) : OcOk a (.err a.InvalidNumber "value" "number" x)
  | mov {x : D} (h : Tx a.Ratio a.Move x) : OcOk a (.err a.InvalidMoves "position" "moves" x)
theorem w_toldO {π : Po} {δ : List Rv} {k : Rv → Prop} {P : Addr} {q q' : Str} {t : XK → TE} {K : PySem.W.Frag} {o : Oc} (hT : (P, q) ∈ π.tabs ∧ ∀ s, (P, s) ∈ π.tabs → s = q) (hq : q' = q) (v : OcOk a o) (h : ∀ E, WpX π E (kxO o) (t E) δ fun _ => o = .ok) (hk : k (.new (.lst (lstO a o)))) :
    Wp π (tLamS P q' (TTo K (handT a) normT) t) δ k := by
  subst hq
  refine w_told (nm := o = .ok) hT.1 hT.2 h (fun z => by subst z; exact hk) fun C fds hc => ?_
  cases v with
  | ok => exact hc.elim
  | nam hx => exact .inl ⟨hc.1, _, _, hc.2, (txOf_ok hx).1, hk⟩
  | num hx => exact .inr (.inl ⟨hc.1, _, _, hc.2, (txOf_ok hx).1, hk⟩)
  | mov hx => exact .inr (.inr ⟨hc.1, _, _, hc.2, (txOf_ok hx).1, hk⟩)
/-- a word of a move -/
structure Word (R M : Addr) (x : D) : Prop where
  nd : Nd R x
  tx : Tx R M x
def oMv (a : Ad) (t s g : D) : Oc := match mvBad t s g with
  | some x => .err a.InvalidName "value" "name" x
  | none => .ok
theorem nmD_str {x : D} (h : nmD x = true) : ∃ s, x = .str s ∧ nmB s = true := by
  cases x with
  | str s => exact ⟨s, rfl, h⟩
  | _ => cases h
theorem mvBad_none {t s g : D} (h : mvBad t s g = none) : ∃ m : M3, t = .str m.1 ∧ s = .str m.2.1 ∧ g = .str m.2.2 ∧ MOk m := by
  unfold mvBad at h
  by_cases h1 : nmD t = false
  · rw [if_pos h1] at h; cases h
  rw [if_neg h1] at h
  by_cases h2 : nmD s = false
  · rw [if_pos h2] at h; cases h
  rw [if_neg h2] at h
  by_cases h3 : nmD g = false
  · rw [if_pos h3] at h; cases h
  rw [if_neg h3] at h
  obtain ⟨x, rfl, n1⟩ := nmD_str (by simpa using h1)
  obtain ⟨y, rfl, n2⟩ := nmD_str (by simpa using h2)
  obtain ⟨z, rfl, n3⟩ := nmD_str (by simpa using h3)
  by_cases e : z = y
  · dsimp only at h; rw [if_pos e] at h; cases h
  exact ⟨(x, y, z), rfl, rfl, rfl, n1, n2, n3, e⟩
theorem mvBad_mem {t s g x : D} (h : mvBad t s g = some x) : x = t ∨ x = s ∨ x = g := by
  unfold mvBad at h
  by_cases h1 : nmD t = false
  · rw [if_pos h1] at h; cases h; exact .inl rfl
  rw [if_neg h1] at h
  by_cases h2 : nmD s = false
  · rw [if_pos h2] at h; cases h; exact .inr (.inl rfl)
  rw [if_neg h2] at h
  by_cases h3 : nmD g = false
  · rw [if_pos h3] at h; cases h; exact .inr (.inr rfl)
  rw [if_neg h3] at h
  split at h
  · split at h
    · cases h; exact .inr (.inr rfl)
    · cases h
  · cases h
theorem oMv_ok {t s g : D} (h1 : Word a.Ratio a.Move t) (h2 : Word a.Ratio a.Move s) (h3 : Word a.Ratio a.Move g) : OcOk a (oMv a t s g) := by
  unfold oMv
  cases e : mvBad t s g with
  | none => exact .ok
  | some x => rcases mvBad_mem e with rfl | rfl | rfl <;> exact .nam (by first | exact h1.tx | exact h2.tx | exact h3.tx)
theorem oMv_mk {t s g : D} (h1 : Word a.Ratio a.Move t) (h2 : Word a.Ratio a.Move s) (h3 : Word a.Ratio a.Move g) : (bMove a.Move [.d t, .d s, .d g] fun _ => oMv a t s g = .ok) ∨ bMoveX a.Ratio a.InvalidName [.d t, .d s, .d g] (kxO (oMv a t s g)) := by
  unfold oMv
  cases e : mvBad t s g with
  | none =>
    obtain ⟨m, rfl, rfl, rfl, om⟩ := mvBad_none e
    exact .inl ⟨m.1, m.2.1, m.2.2, rfl, om.t, om.s, om.g, om.ne, rfl⟩
  | some x => exact .inr ⟨t, s, g, x, rfl, h1.nd, h2.nd, h3.nd, e, rfl, rfl⟩
theorem told_pl {o : Oc} (v : OcOk a o) : ∃ p, Pl (.lst (lstO a o)) p ∧ p.canLay0 = true ∧ p.depth = 1 := by
  have one : ∀ (w : Str) (x : D), PyData.strOk w = true → Tx a.Ratio a.Move x → ∃ p, Pl (.lst [.str w, .str (txOf a.Ratio a.Move x), .bl true]) p ∧ p.canLay0 = true ∧ p.depth = 1 := fun w x hw hx =>
    ⟨_, .lst (.cons .str (.cons .str (.cons .bl .nil))), by simp [PyData.canLay0, PyData.canLayAll0, hw, (txOf_ok hx).2], by simp [PyData.depth, PyData.depthAll]⟩
  cases v with
  | ok => exact ⟨_, .lst (.cons .str .nil), by simp [PyData.canLay0, PyData.canLayAll0]; decide +kernel, by simp [PyData.depth, PyData.depthAll]⟩
  | nam hx => exact one _ _ (by decide +kernel) hx
  | num hx => exact one _ _ (by decide +kernel) hx
  | mov hx => exact one _ _ (by decide +kernel) hx
noncomputable abbrev tolds (a : Ad) (os : List Oc) : List D := os.map fun o => .lst (lstO a o)
theorem tolds_pl : ∀ {os : List Oc}, (∀ o ∈ os, OcOk a o) → ∃ qs, Pls (tolds a os) qs ∧ PyData.canLayAll0 qs = true ∧ PyData.depthAll qs ≤ 1
  | [], _ => ⟨[], .nil, by simp [PyData.canLayAll0], by simp [PyData.depthAll]⟩
  | o :: os, h => by
    obtain ⟨q, h1, h2, h3⟩ := told_pl (h o (.head _))
    obtain ⟨qs, h4, h5, h6⟩ := tolds_pl fun o ho => h o (.tail _ ho)
    exact ⟨q :: qs, .cons h1 h4, by simp [PyData.canLayAll0, h2, h5], by simp only [PyData.depthAll, h3]; omega⟩
theorem tolds_sh {os : List Oc} (h : ∀ o ∈ os, OcOk a o) : ∃ p, Pl (.lst (tolds a os)) p ∧ SeqAt.shaped p = true := by
  obtain ⟨qs, h1, h2, h3⟩ := tolds_pl h
  refine ⟨.list qs, .lst h1, ?_⟩
  unfold SeqAt.shaped
  rw [Bool.and_eq_true, decide_eq_true_eq]
  refine ⟨by simpa [PyData.canLay0] using h2, ?_⟩
  simp only [PyData.depth]
  omega
theorem told_sh {o : Oc} (h : OcOk a o) : ∃ p, Pl (.lst (lstO a o)) p ∧ SeqAt.shaped p = true := by
  obtain ⟨q, h1, h2, h3⟩ := told_pl h
  refine ⟨q, h1, ?_⟩
  unfold SeqAt.shaped
  rw [Bool.and_eq_true, decide_eq_true_eq, h3]
  exact ⟨h2, by decide⟩
theorem wop_eqT {π : Po} {K : PySem.W.Frag} {k : Rv → Prop} {r1 r2 : Rv} {os : List Oc} (h1 : r1.an = some (.lst (tolds a os))) (h2 : r2.an = some (.lst (tolds a os))) (h : ∀ o ∈ os, OcOk a o) (q : k (.d (.bl true))) : WOp π (rEqU K) r1 r2 k := by
  obtain ⟨p, hp, sh⟩ := tolds_sh h
  refine wop_eqP h1 h2 hp hp sh sh ?_
  rw [lay_refl sh]
  exact q
theorem wop_neT {π : Po} {K : PySem.W.Frag} {k : Rv → Prop} {r1 r2 : Rv} {os : List Oc} (h1 : r1.an = some (.lst (tolds a os))) (h2 : r2.an = some (.lst (tolds a os))) (h : ∀ o ∈ os, OcOk a o) (q : k (.d (.bl false))) : WOp π (rNeU K) r1 r2 k := by
  obtain ⟨p, hp, sh⟩ := tolds_sh h
  refine wop_neP h1 h2 hp hp sh sh ?_
  rw [lay_refl sh]
  exact q
theorem wop_eqO1 {π : Po} {K : PySem.W.Frag} {k : Rv → Prop} {r1 r2 : Rv} {o : Oc} (h1 : r1.an = some (.lst (lstO a o))) (h2 : r2.an = some (.lst (lstO a o))) (h : OcOk a o) (q : k (.d (.bl true))) : WOp π (rEqU K) r1 r2 k := by
  obtain ⟨p, hp, sh⟩ := told_sh h
  refine wop_eqP h1 h2 hp hp sh sh ?_
  rw [lay_refl sh]
  exact q
theorem wop_neO1 {π : Po} {K : PySem.W.Frag} {k : Rv → Prop} {r1 r2 : Rv} {o : Oc} (h1 : r1.an = some (.lst (lstO a o))) (h2 : r2.an = some (.lst (lstO a o))) (h : OcOk a o) (q : k (.d (.bl false))) : WOp π (rNeU K) r1 r2 k := by
  obtain ⟨p, hp, sh⟩ := told_sh h
  refine wop_neP h1 h2 hp hp sh sh ?_
  rw [lay_refl sh]
  exact q
theorem wop_mulL {π : Po} {k : Rv → Prop} {x : Rv} {ds : List D} {n : Int} (hl : x.li = some ds) (h0 : 0 ≤ n) (h1 : n ≤ 4000) (hz : ds.length * n.toNat ≤ 4000) (q : k (.new (.lst (List.replicate n.toNat ds).flatten))) : WOp π rMulU x (.d (.int n)) k := fun X H0 H u v Q o0 o k0 ra rb h => by
  obtain ⟨p, vs, rfl, e, t⟩ := ra.li hl
  cases rb
  refine .inr ⟨p, n, vs, rfl, rfl, e, by omega, by omega, by rw [t.length]; exact le_line hz, fun p hp => ?_⟩
  have rep : ∀ m : Nat, Ats _ (List.replicate m vs).flatten (List.replicate m ds).flatten := fun m => by
    induction m with
    | zero => exact .nil
    | succ m ih => rw [List.replicate_succ, List.replicate_succ, List.flatten_cons, List.flatten_cons]; exact t.append ih
  exact new_lst o k0 o0 (rep n.toNat) h q p hp
/-- the tables of the lambdas -/
abbrev tbR (a : Ad) : List (Addr × Str) := [(a.t_law_move_right, "_law_move_right.<locals>.<lambda>"), (a.t_law_single_right, "_law_single_right.<locals>.<lambda>"), (a.t_law_gift_right, "_law_gift_right.<locals>.<lambda>")]
theorem tbR_1 (T : Txt W.K W.mg a) {π : Po} (h : π.tabs = tbR a) : (a.t_law_move_right, ("_law_move_right.<locals>.<lambda>" : Str)) ∈ π.tabs ∧ ∀ s, (a.t_law_move_right, s) ∈ π.tabs → s = "_law_move_right.<locals>.<lambda>" := by
  rw [h]
  refine ⟨.head _, fun s hs => ?_⟩
  simp only [List.mem_cons, List.not_mem_nil, or_false, Prod.mk.injEq] at hs
  rcases hs with ⟨_, h⟩ | ⟨h, _⟩ | ⟨h, _⟩
  · exact h
  · exact absurd h.symm T.t_21
  · exact absurd h.symm T.t_31
theorem tbR_2 (T : Txt W.K W.mg a) {π : Po} (h : π.tabs = tbR a) : (a.t_law_single_right, ("_law_single_right.<locals>.<lambda>" : Str)) ∈ π.tabs ∧ ∀ s, (a.t_law_single_right, s) ∈ π.tabs → s = "_law_single_right.<locals>.<lambda>" := by
  rw [h]
  refine ⟨.tail _ (.head _), fun s hs => ?_⟩
  simp only [List.mem_cons, List.not_mem_nil, or_false, Prod.mk.injEq] at hs
  rcases hs with ⟨h, _⟩ | ⟨_, h⟩ | ⟨h, _⟩
  · exact absurd h T.t_21
  · exact h
  · exact absurd h.symm T.t_32
theorem tbR_3 (T : Txt W.K W.mg a) {π : Po} (h : π.tabs = tbR a) : (a.t_law_gift_right, ("_law_gift_right.<locals>.<lambda>" : Str)) ∈ π.tabs ∧ ∀ s, (a.t_law_gift_right, s) ∈ π.tabs → s = "_law_gift_right.<locals>.<lambda>" := by
  rw [h]
  refine ⟨.tail _ (.tail _ (.head _)), fun s hs => ?_⟩
  simp only [List.mem_cons, List.not_mem_nil, or_false, Prod.mk.injEq] at hs
  rcases hs with ⟨h, _⟩ | ⟨h, _⟩ | ⟨_, h⟩
  · exact absurd h T.t_31
  · exact absurd h T.t_32
  · exact h
end Lw
namespace Lw
open PySem PySem.Spec PyProof.Rows L2 Ly Dt LamX
local macro_rules | `(tactic| walk_at "wk") => `(tactic| first
  | ((with_reducible refine' w_var ?hv ?hn ?_); (case hv => exact rfl); (case hn => (intro z; cases z)))
  | with_reducible refine w_int ?_
  | with_reducible refine w_str ?_
  | with_reducible refine w_op ?_
  | with_reducible refine wa_cons ?_
  | with_reducible refine wa_nil ?_
  | with_reducible refine w_reprL ?_
  | with_reducible refine w_isi2 ?_
  | with_reducible refine w_cb ?_
  | with_reducible refine w_call ?_
  | ((with_reducible refine' ws_retV ?hv ?_); (case hv => exact rfl))
  | with_reducible refine ws_seq ?_
  | with_reducible refine ws_asg ?_
  | with_reducible refine ws_ret ?_
  | with_reducible refine ws_if ?_
  | with_reducible refine ws_next ?_
  | ((with_reducible refine' ws_append ?hv ?hz ?_); (case hv => exact rfl); rotate_left)
  | with_reducible refine ws_drop ?_
  | with_reducible refine ws_retN ?_
  | ((with_reducible refine wg_d ?_); dsimp only [List.set])
  | ((with_reducible refine wg_raw ?_); dsimp only [List.set])
  | ((with_reducible refine wg_E ?_))
  | ((with_reducible refine' we_tup ?hl ?_); (case hl => exact rfl))
  | with_reducible refine wes_cons ?_
  | with_reducible refine wes_nil ?_
  | ((with_reducible refine we_name ?_); dsimp only [List.set])
  | with_reducible refine out_d ?_
  | with_reducible refine out_new ?_
  | with_reducible refine ex_bl ?_
  | with_reducible refine ite_t ?_
  | ((with_reducible refine ex_fzd ?_); dsimp only [List.set, List.nil_append, List.cons_append])
  | ((with_reducible refine ex_fzn ?_); dsimp only [List.set, List.nil_append, List.cons_append])
  | with_reducible refine ite_nt ?_
  | with_reducible refine ite_nf ?_
  | with_reducible refine ite_f ?_
  | with_reducible refine wt_tb ?_
  | with_reducible refine wt_test ?_
  | with_reducible refine wt_and ?_
  | with_reducible refine wt_or ?_
  | with_reducible refine wt_not ?_
  | with_reducible refine w_andV ?_
  | with_reducible refine w_orV ?_
  | with_reducible refine w_notV ?_
  | with_reducible refine w_if ?_
  | with_reducible refine w_bl ?_
  | with_reducible refine w_non ?_
  | with_reducible refine w_ty ?_
  | with_reducible refine w_ref ?_
  | with_reducible refine w_un ?_
  | ((with_reducible refine w_tup ?_); skip)
  | ((with_reducible refine w_lst ?_); skip)
  | ((with_reducible refine' Exists.intro _ (And.intro ?hf (And.intro ?hl ?_))); (case hf => exact rfl); (case hl => exact Nat.le_of_ble_eq_true rfl))
  | with_reducible refine w_fld ?_
  | ((with_reducible refine' fld_of ?ho ?c ?n ?l ?_); (case ho => exact rfl); (case c => assumption); (case n => with_reducible assumption); (case l => exact rfl))
  | with_reducible refine wp_top ?_
  | with_reducible refine wp_bot ?_
  | with_reducible refine w_prop ?_
  | with_reducible refine w_meth ?_
  | with_reducible refine w_smeth ?_
  | with_reducible refine wop_addI ?_
  | with_reducible refine wop_subI ?_
  | ((with_reducible refine' wop_mulI ?c ?_); rotate_left)
  | ((with_reducible refine' wop_fdI ?c ?_); rotate_left)
  | with_reducible refine wop_mdI (by first | decide | assumption) ?_
  | ((with_reducible refine' wop_mdI ?c ?_); rotate_left)
  | ((with_reducible refine' wop_I0 ?e ?_); (case e => exact rfl))
  | ((with_reducible refine' wop_ixT ?e ?_); (case e => exact rfl))
  | ((with_reducible refine' wcb_lenL ?e ?_); (case e => exact rfl))
  | with_reducible refine wcb_lenT ?_
  | ((with_reducible refine' wop_fdX ?c ?_); rotate_left)
  | ((with_reducible refine' wun_U ?e ?_); (case e => exact rfl))
  | with_reducible refine wop_eqI ?_
  | with_reducible refine wop_neI ?_
  | with_reducible refine wop_eqS ?_
  | with_reducible refine wop_neS ?_
  | with_reducible refine wop_isN ?_
  | with_reducible refine wop_notN ?_
  | ((with_reducible refine' wop_inS ?e ?_); (case e => exact rfl))
  | ((with_reducible refine' wop_niS ?e ?_); (case e => exact rfl))
  | with_reducible refine wop_inST ?_
  | with_reducible refine wcb_gcd ?_
  | with_reducible refine wcb_abs ?_
  | with_reducible refine wcb_max2 ?_
  | with_reducible refine wcb_min2 ?_
  | with_reducible refine wcb_int ?_
  | ((with_reducible refine' wcb_isi (b := true) ?ho ?hb ?_); (case ho => exact rfl); (case hb => (dsimp only [tyN]; decide +kernel)))
  | ((with_reducible refine' wcb_isi (b := false) ?ho ?hb ?_); (case ho => exact rfl); (case hb => (dsimp only [tyN]; decide +kernel)))
  | ((with_reducible refine' wcb_listOf ?e ?_); (case e => exact rfl))
  | with_reducible refine wcb_listOfT ?_
  | ((with_reducible refine' wcb_tupOf ?e ?_); (case e => exact rfl))
  | with_reducible refine w_chain ?_
  | with_reducible refine wcb_strS ?_
  | ((with_reducible refine' wcb_lenD ?e ?_); (case e => exact rfl))
  | ((with_reducible refine' wcb_listD ?e ?_); (case e => exact rfl))
  | with_reducible refine w_dnewK ?_
  | with_reducible refine w_dget ?_
  | with_reducible refine w_din ?_
  | with_reducible refine w_dni ?_
  | with_reducible refine w_lenSet ?_
  | with_reducible refine w_listVals ?_
  | with_reducible refine w_chain ?_
  | ((with_reducible refine' wt_yes ?_)))
variable {W : Wd} {a : Ad}
theorem k_law_due (T : Txt W.K W.mg a) : ClG W 8 "_law_due" (spW false fun rs k => ∃ t s g, rs = [.d (.lst [t, s, g])] ∧ Word a.Ratio a.Move t ∧ Word a.Ratio a.Move s ∧ Word a.Ratio a.Move g ∧ k (.new (.lst (lstO a (oMv a t s g))))) := by
  refine clg_W T.d_law_due sc_law_due bd_law_due (fun rs k ⟨_, _, _, h, _⟩ => by rw [h]; rfl) (body_G (n := 1) (m := 1) rfl (fun rs k ⟨_, _, _, h, _⟩ => by rw [h]; rfl) fun f cdv A outer s H E hr hgd => ⟨_, (pss_cons (ps_for PassesOwn.never rfl (pi_listK (K := W.K) rfl (pv 0)) (pg_name (i := 1) sc_law_due.nd rfl (Or.inl rfl)) (pss_one (ps_if (pt_not (pt_val (pe_cl (k_law_is_named T) hr (by decide) rfl (pa_cons (pv 1) pa_nil)))) (pss_one (ps_ret (pe_lst (pa_cons pe_str (pa_cons (pe_callB (r := rRepX W.K a.Ratio a.Move) (call_repX T (L2H.roomH_of hr) (by decide) hgd) (by rfl) T.b_repr (by decide +kernel) (pa_cons (pv 1) pa_nil)) (pa_cons pe_bl pa_nil)))))) pss_nil))) (pss_one (ps_ret (pe_ifExp (pt_cmpR (r := rEqU W.K) (op_eqU hr.units) (pe_ix (r := rIx W.K) ix_U (pv 0) pe_int (fun _ _ => rfl)) (pe_ix (r := rIx W.K) ix_U (pv 0) pe_int (fun _ _ => rfl)) (nomark _)) (pe_lst (pa_cons pe_str (pa_cons (pe_callB (r := rRepX W.K a.Ratio a.Move) (call_repX T (L2H.roomH_of hr) (by decide) hgd) (by rfl) T.b_repr (by decide +kernel) (pa_cons (pe_ix (r := rIx W.K) ix_U (pv 0) pe_int (fun _ _ => rfl)) pa_nil)) (pa_cons pe_bl pa_nil)))) (pe_lst (pa_cons pe_str pa_nil)))))), fun π rs kr hp hB => ?_⟩)
  obtain ⟨t, s, g, rfl, h1, h2, h3, q⟩ := hB
  dsimp only [uns, List.replicate, List.cons_append, List.nil_append]
  repeat walk_at "wk"
  refine ws_for (wi_list ?_)
  repeat walk_at "wk"
  refine ⟨_, rfl, fun i δ => (∃ r : Rv, δ = [.d (.lst [t, s, g]), r]) ∧ (0 < i → nmD t = true) ∧ (1 < i → nmD s = true) ∧ (2 < i → nmD g = true), ⟨⟨_, rfl⟩, fun z => absurd z (by omega), fun z => absurd z (by omega), fun z => absurd z (by omega)⟩, fun i d δ' hd hI => ?_, fun δ' hI => ?_⟩
  · obtain ⟨⟨r, rfl⟩, i1, i2, i3⟩ := hI
    have hw : Word a.Ratio a.Move d := by
      have m := List.mem_of_getElem? hd
      simp only [List.mem_cons, List.not_mem_nil, or_false] at m
      rcases m with rfl | rfl | rfl
      · exact h1
      · exact h2
      · exact h3
    refine we_name ?_
    dsimp only [List.set]
    repeat walk_at "wk"
    refine wcb_W0 (rs := [.d d]) rfl rfl ⟨d, rfl, hw.nd, fun z => (by cases z), ?_⟩
    cases hb2 : nmD d with
    | true =>
      repeat walk_at "wk"
      refine ⟨⟨_, rfl⟩, ?_⟩
      match i, hd with
      | 0, hd => cases hd; exact ⟨fun _ => hb2, fun z => absurd z (by omega), fun z => absurd z (by omega)⟩
      | 1, hd => cases hd; exact ⟨fun _ => i1 (by omega), fun _ => hb2, fun z => absurd z (by omega)⟩
      | 2, hd => cases hd; exact ⟨fun _ => i1 (by omega), fun _ => i2 (by omega), fun _ => hb2⟩
    | false =>
      repeat walk_at "wk"
      refine wcb_repX (txOf_ok hw.tx).1 ?_
      repeat walk_at "wk"
      have e : mvBad t s g = some d := by
        unfold mvBad
        match i, hd with
        | 0, hd => cases hd; rw [if_pos hb2]
        | 1, hd => cases hd; rw [i1 (by omega), if_neg (by decide), if_pos hb2]
        | 2, hd => cases hd; rw [i1 (by omega), if_neg (by decide), i2 (by omega), if_neg (by decide), if_pos hb2]
      unfold oMv at q
      rw [e] at q
      exact q
  · obtain ⟨⟨r, rfl⟩, i1, i2, i3⟩ := hI
    have j1 := i1 (show 0 < 3 by omega)
    have j2 := i2 (show 1 < 3 by omega)
    have j3 := i3 (show 2 < 3 by omega)
    obtain ⟨x, rfl, _⟩ := nmD_str j1
    obtain ⟨y, rfl, _⟩ := nmD_str j2
    obtain ⟨z, rfl, _⟩ := nmD_str j3
    have e : mvBad (.str x) (.str y) (.str z) = if z = y then some (.str z) else none := by
      unfold mvBad
      rw [j1, if_neg (by decide), j2, if_neg (by decide), j3, if_neg (by decide)]
    unfold oMv at q
    rw [e] at q
    repeat first | walk_at "wk" | refine wop_ixL rfl rfl ?_
    by_cases e2 : z = y
    · rw [if_pos e2] at q
      rw [decide_eq_true e2.symm]
      repeat first | walk_at "wk" | refine wop_ixL rfl rfl ?_
      refine wcb_repX (txOf_ok h3.tx).1 ?_
      repeat walk_at "wk"
      exact q
    · rw [if_neg e2] at q
      rw [decide_eq_false (fun z => e2 z.symm)]
      repeat walk_at "wk"
      exact q
theorem k_law_move_right (T : Txt W.K W.mg a) (TB1 : TabB W.base W.mg a.c_law_move_right a.t_law_move_right) (TB2 : TabB W.base W.mg a.c_law_single_right a.t_law_single_right) (TB3 : TabB W.base W.mg a.c_law_gift_right a.t_law_gift_right) : ClG W 15 "_law_move_right" (spT (tbR a) true fun rs k => ∃ t s g, rs = [.d (.lst [t, s, g])] ∧ Word a.Ratio a.Move t ∧ Word a.Ratio a.Move s ∧ Word a.Ratio a.Move g ∧ k (.d (.bl true))) := by
  refine clg_TC T.dc_law_move_right sc_law_move_right bd_law_move_right (fun rs k ⟨_, _, _, h, _⟩ => by rw [h]; rfl) (body_TC (n := 1) (m := 1) rfl (fun rs k ⟨_, _, _, h, _⟩ => by rw [h]; rfl) fun f A outer s H E hr hgd => ⟨_, (pss_cons (ps_set (i := 1) sc_law_move_right.nd rfl (Or.inl rfl) (pe_lst (pa_cons (pe_told (k := 9) T.d_law_met sc_law_met bd_law_met rfl (.inl rfl) (fun g_ cdg_ q_ => told_gives T (hr.mono (by decide)) hgd) (by rfl) TB1 rfl hr (by decide) (lamS_by (show lamSB (defScope s_law_move_right) _ = true by decide +kernel)) rfl (fun _ _ _ _ _ => rfl) (fun A_ o_ s_ H_ E_ f_ c_ hr => (pe_mkRx (m_MoveU T) (takes_of rfl rfl rfl rfl) (fun _ _ _ _ h => h) hr (by decide) rfl (pa_cons (pe_ix (r := rIx W.K) ix_U (pv 0) pe_int (fun _ _ => rfl)) (pa_cons (pe_ix (r := rIx W.K) ix_U (pv 0) pe_int (fun _ _ => rfl)) (pa_cons (pe_ix (r := rIx W.K) ix_U (pv 0) pe_int (fun _ _ => rfl)) pa_nil)))))) pa_nil))) (pss_cons (ps_expr (pe_bmK (K := W.K) rfl PySem.F.plainAttrs_list PySem.F.slot_list_append PySem.F.type_list_append mt_append (pv 1) (pa_cons (pe_told (k := 9) T.d_law_met sc_law_met bd_law_met rfl (.inl rfl) (fun g_ cdg_ q_ => told_gives T (hr.mono (by decide)) hgd) (by rfl) TB1 rfl hr (by decide) (lamS_by (show lamSB (defScope s_law_move_right) _ = true by decide +kernel)) rfl (fun _ _ _ _ _ => rfl) (fun A_ o_ s_ H_ E_ f_ c_ hr => (pe_makKgX (m_MoveUk T) (takes_of rfl rfl rfl rfl) (fun _ _ _ _ h => h) hr (by decide) (by rfl) (pk_cons (pe_ix (r := rIx W.K) ix_U (pv 0) pe_int (fun _ _ => rfl)) (pk_cons (pe_ix (r := rIx W.K) ix_U (pv 0) pe_int (fun _ _ => rfl)) (pk_cons (pe_ix (r := rIx W.K) ix_U (pv 0) pe_int (fun _ _ => rfl)) pk_nil)))))) pa_nil))) (pss_one (ps_ret (pe_cmpR (r := rEqU W.K) (op_eqU hr.units) (pv 1) (pe_op op_mulU (pe_lst (pa_cons (pe_clG (k_law_due T) hr hgd (by decide) rfl (pa_cons (pv 0) pa_nil)) pa_nil)) pe_int) (nomark _)))))), fun π rs kr hp hT hB => ?_⟩)
  obtain ⟨t, s, g, rfl, h1, h2, h3, q⟩ := hB
  dsimp only [uns, List.replicate, List.cons_append, List.nil_append]
  repeat walk_at "wk"
  refine w_toldO (tbR_1 T hT) rfl (oMv_ok h1 h2 h3) (fun E => wx_makeU ?_) ?_
  · repeat first | walk_at "wk" | refine wop_ixL rfl rfl ?_
    exact ⟨_, rfl, rfl, oMv_mk h1 h2 h3⟩
  repeat walk_at "wk"
  refine wg_new fun p1 => ?_
  dsimp only [List.set]
  repeat walk_at "wk"
  case hz => exact (by show 1 < 4000; decide)
  refine w_toldO (tbR_1 T hT) rfl (oMv_ok h1 h2 h3) (fun E => wx_makKgU ?_) ?_
  · repeat first | walk_at "wk" | refine wop_ixL rfl rfl ?_
    exact ⟨rfl, _, rfl, rfl, oMv_mk h1 h2 h3⟩
  repeat walk_at "wk"
  refine wcb_W0 (rs := [.d (.lst [t, s, g])]) rfl rfl ⟨t, s, g, rfl, h1, h2, h3, fun z => (by cases z), ?_⟩
  repeat walk_at "wk"
  refine wop_mulL rfl (by decide) (by decide) (by show 1 * 2 ≤ 4000; decide) ?_
  exact wop_eqT (a := a) (os := [oMv a t s g, oMv a t s g]) rfl rfl (fun o ho => by
    simp only [List.mem_cons, List.not_mem_nil, or_false] at ho
    rcases ho with rfl | rfl <;> exact oMv_ok h1 h2 h3) (out_d q)
end Lw
namespace Lw
open PySem PySem.Spec PyProof.Rows L2 Ly Dt LamX
local macro_rules | `(tactic| walk_at "wk") => `(tactic| first
  | ((with_reducible refine' w_var ?hv ?hn ?_); (case hv => exact rfl); (case hn => (intro z; cases z)))
  | with_reducible refine w_int ?_
  | with_reducible refine w_str ?_
  | with_reducible refine w_op ?_
  | with_reducible refine wa_cons ?_
  | with_reducible refine wa_nil ?_
  | with_reducible refine w_reprL ?_
  | with_reducible refine w_isi2 ?_
  | with_reducible refine w_cb ?_
  | with_reducible refine w_call ?_
  | ((with_reducible refine' ws_retV ?hv ?_); (case hv => exact rfl))
  | with_reducible refine ws_seq ?_
  | with_reducible refine ws_asg ?_
  | with_reducible refine ws_ret ?_
  | with_reducible refine ws_if ?_
  | with_reducible refine ws_next ?_
  | ((with_reducible refine' ws_append ?hv ?hz ?_); (case hv => exact rfl); rotate_left)
  | with_reducible refine ws_drop ?_
  | with_reducible refine ws_retN ?_
  | ((with_reducible refine wg_d ?_); dsimp only [List.set])
  | ((with_reducible refine wg_raw ?_); dsimp only [List.set])
  | ((with_reducible refine wg_E ?_))
  | ((with_reducible refine' we_tup ?hl ?_); (case hl => exact rfl))
  | with_reducible refine wes_cons ?_
  | with_reducible refine wes_nil ?_
  | ((with_reducible refine we_name ?_); dsimp only [List.set])
  | with_reducible refine out_d ?_
  | with_reducible refine out_new ?_
  | with_reducible refine ex_bl ?_
  | with_reducible refine ite_t ?_
  | ((with_reducible refine ex_fzd ?_); dsimp only [List.set, List.nil_append, List.cons_append])
  | ((with_reducible refine ex_fzn ?_); dsimp only [List.set, List.nil_append, List.cons_append])
  | with_reducible refine ite_nt ?_
  | with_reducible refine ite_nf ?_
  | with_reducible refine ite_f ?_
  | with_reducible refine wt_tb ?_
  | with_reducible refine wt_test ?_
  | with_reducible refine wt_and ?_
  | with_reducible refine wt_or ?_
  | with_reducible refine wt_not ?_
  | with_reducible refine w_andV ?_
  | with_reducible refine w_orV ?_
  | with_reducible refine w_notV ?_
  | with_reducible refine w_if ?_
  | with_reducible refine w_bl ?_
  | with_reducible refine w_non ?_
  | with_reducible refine w_ty ?_
  | with_reducible refine w_ref ?_
  | with_reducible refine w_un ?_
  | ((with_reducible refine w_tup ?_); skip)
  | ((with_reducible refine w_lst ?_); skip)
  | ((with_reducible refine' Exists.intro _ (And.intro ?hf (And.intro ?hl ?_))); (case hf => exact rfl); (case hl => exact Nat.le_of_ble_eq_true rfl))
  | with_reducible refine w_fld ?_
  | ((with_reducible refine' fld_of ?ho ?c ?n ?l ?_); (case ho => exact rfl); (case c => assumption); (case n => with_reducible assumption); (case l => exact rfl))
  | with_reducible refine wp_top ?_
  | with_reducible refine wp_bot ?_
  | with_reducible refine w_prop ?_
  | with_reducible refine w_meth ?_
  | with_reducible refine w_smeth ?_
  | with_reducible refine wop_addI ?_
  | with_reducible refine wop_subI ?_
  | ((with_reducible refine' wop_mulI ?c ?_); rotate_left)
  | ((with_reducible refine' wop_fdI ?c ?_); rotate_left)
  | with_reducible refine wop_mdI (by first | decide | assumption) ?_
  | ((with_reducible refine' wop_mdI ?c ?_); rotate_left)
  | ((with_reducible refine' wop_I0 ?e ?_); (case e => exact rfl))
  | ((with_reducible refine' wop_ixT ?e ?_); (case e => exact rfl))
  | ((with_reducible refine' wcb_lenL ?e ?_); (case e => exact rfl))
  | with_reducible refine wcb_lenT ?_
  | ((with_reducible refine' wop_fdX ?c ?_); rotate_left)
  | ((with_reducible refine' wun_U ?e ?_); (case e => exact rfl))
  | with_reducible refine wop_eqI ?_
  | with_reducible refine wop_neI ?_
  | with_reducible refine wop_eqS ?_
  | with_reducible refine wop_neS ?_
  | with_reducible refine wop_isN ?_
  | with_reducible refine wop_notN ?_
  | ((with_reducible refine' wop_inS ?e ?_); (case e => exact rfl))
  | ((with_reducible refine' wop_niS ?e ?_); (case e => exact rfl))
  | with_reducible refine wop_inST ?_
  | with_reducible refine wcb_gcd ?_
  | with_reducible refine wcb_abs ?_
  | with_reducible refine wcb_max2 ?_
  | with_reducible refine wcb_min2 ?_
  | with_reducible refine wcb_int ?_
  | ((with_reducible refine' wcb_isi (b := true) ?ho ?hb ?_); (case ho => exact rfl); (case hb => (dsimp only [tyN]; decide +kernel)))
  | ((with_reducible refine' wcb_isi (b := false) ?ho ?hb ?_); (case ho => exact rfl); (case hb => (dsimp only [tyN]; decide +kernel)))
  | ((with_reducible refine' wcb_listOf ?e ?_); (case e => exact rfl))
  | with_reducible refine wcb_listOfT ?_
  | ((with_reducible refine' wcb_tupOf ?e ?_); (case e => exact rfl))
  | with_reducible refine w_chain ?_
  | with_reducible refine wcb_strS ?_
  | ((with_reducible refine' wcb_lenD ?e ?_); (case e => exact rfl))
  | ((with_reducible refine' wcb_listD ?e ?_); (case e => exact rfl))
  | with_reducible refine w_dnewK ?_
  | with_reducible refine w_dget ?_
  | with_reducible refine w_din ?_
  | with_reducible refine w_dni ?_
  | with_reducible refine w_lenSet ?_
  | with_reducible refine w_listVals ?_
  | with_reducible refine w_chain ?_
  | ((with_reducible refine' wt_yes ?_)))
variable {W : Wd} {a : Ad}
theorem oSg_mk {d t s g : D} {q : Rat} (n : NumQ a.Ratio d q) (h0 : 0 < q.num) (hz : Sz 4000 q.num) (h1 : Word a.Ratio a.Move t) (h2 : Word a.Ratio a.Move s) (h3 : Word a.Ratio a.Move g) :
    (bSingle a.Gift a.Ratio a.Move [.d d, .d t, .d s, .d g] fun r => r ≠ .pot ∧ oMv a t s g = .ok) ∨ (bSingleN a.Ratio a.Move a.InvalidNumber [.d d, .d t, .d s, .d g] (kxO (oMv a t s g)) ∨ bSingleM a.Ratio a.InvalidName [.d d, .d t, .d s, .d g] (kxO (oMv a t s g))) := by
  unfold oMv
  cases e : mvBad t s g with
  | none =>
    obtain ⟨m, rfl, rfl, rfl, om⟩ := mvBad_none e
    exact .inl ⟨d, q, m, rfl, n, h0, hz, om, (fun z => by cases z), rfl⟩
  | some x => exact .inr (.inr ⟨d, q, t, s, g, x, rfl, n, h0, hz, h1.nd, h2.nd, h3.nd, e, rfl, rfl⟩)
def oNm (a : Ad) (x : D) : Oc := .err a.InvalidNumber "value" "number" x
theorem k_law_single_right (T : Txt W.K W.mg a) (TB1 : TabB W.base W.mg a.c_law_move_right a.t_law_move_right) (TB2 : TabB W.base W.mg a.c_law_single_right a.t_law_single_right) (TB3 : TabB W.base W.mg a.c_law_gift_right a.t_law_gift_right) : ClG W 15 "_law_single_right" (spT (tbR a) true fun rs k => ∃ t s g x, rs = [.d (.lst [t, s, g]), .d x] ∧ Word a.Ratio a.Move t ∧ Word a.Ratio a.Move s ∧ Word a.Ratio a.Move g ∧ AmtX a.Ratio a.Move x ∧ Tx a.Ratio a.Move x ∧ k (.d (.bl true))) := by
  refine clg_TC T.dc_law_single_right sc_law_single_right bd_law_single_right (fun rs k ⟨_, _, _, _, h, _⟩ => by rw [h]; rfl) (body_TC (n := 2) (m := 1) rfl (fun rs k ⟨_, _, _, _, h, _⟩ => by rw [h]; rfl) fun f A outer s H E hr hgd => ⟨_, (pss_cons (ps_set (i := 2) sc_law_single_right.nd rfl (Or.inl rfl) (pe_lst (pa_cons (pe_told (k := 9) T.d_law_met sc_law_met bd_law_met rfl (.inl rfl) (fun g_ cdg_ q_ => told_gives T (hr.mono (by decide)) hgd) (by rfl) TB2 rfl hr (by decide) (lamS_by (show lamSB (defScope s_law_single_right) _ = true by decide +kernel)) rfl (fun _ _ _ _ _ => rfl) (fun A_ o_ s_ H_ E_ f_ c_ hr => (pe_smx (sm_singleU T) (takes_of rfl rfl rfl rfl) (fun _ _ _ _ h => h) hr (by decide) (pe_gn (v := .ref a.Gift) (by rfl) T.o_Gift.mg rfl) (pa_cons (pe_mak (m_Ratio2 T) hr (by decide) rfl (pa_cons pe_int (pa_cons pe_int pa_nil))) (pa_cons (pe_ix (r := rIx W.K) ix_U (pv 0) pe_int (fun _ _ => rfl)) (pa_cons (pe_ix (r := rIx W.K) ix_U (pv 0) pe_int (fun _ _ => rfl)) (pa_cons (pe_ix (r := rIx W.K) ix_U (pv 0) pe_int (fun _ _ => rfl)) pa_nil))))))) pa_nil))) (pss_cons (ps_expr (pe_bmK (K := W.K) rfl PySem.F.plainAttrs_list PySem.F.slot_list_append PySem.F.type_list_append mt_append (pv 2) (pa_cons (pe_told (k := 9) T.d_law_met sc_law_met bd_law_met rfl (.inl rfl) (fun g_ cdg_ q_ => told_gives T (hr.mono (by decide)) hgd) (by rfl) TB2 rfl hr (by decide) (lamS_by (show lamSB (defScope s_law_single_right) _ = true by decide +kernel)) rfl (fun _ _ _ _ _ => rfl) (fun A_ o_ s_ H_ E_ f_ c_ hr => (pe_smx (sm_singleU T) (takes_of rfl rfl rfl rfl) (fun _ _ _ _ h => h) hr (by decide) (pe_gn (v := .ref a.Gift) (by rfl) T.o_Gift.mg rfl) (pa_cons pe_int (pa_cons (pe_ix (r := rIx W.K) ix_U (pv 0) pe_int (fun _ _ => rfl)) (pa_cons (pe_ix (r := rIx W.K) ix_U (pv 0) pe_int (fun _ _ => rfl)) (pa_cons (pe_ix (r := rIx W.K) ix_U (pv 0) pe_int (fun _ _ => rfl)) pa_nil))))))) pa_nil))) (pss_cons (ps_if (pt_cmpR (r := rNeU W.K) (op_neU hr.units) (pv 2) (pe_op op_mulU (pe_lst (pa_cons (pe_clG (k_law_due T) hr hgd (by decide) rfl (pa_cons (pv 0) pa_nil)) pa_nil)) pe_int) (nomark _)) (pss_one (ps_ret pe_bl)) pss_nil) (pss_one (ps_ret (pe_cmpR (r := rEqU W.K) (op_eqU hr.units) (pe_told (k := 9) T.d_law_met sc_law_met bd_law_met rfl (.inl rfl) (fun g_ cdg_ q_ => told_gives T (hr.mono (by decide)) hgd) (by rfl) TB2 rfl hr (by decide) (lamS_by (show lamSB (defScope s_law_single_right) _ = true by decide +kernel)) rfl (fun _ _ _ _ _ => rfl) (fun A_ o_ s_ H_ E_ f_ c_ hr => (pe_smx (sm_singleU T) (takes_of rfl rfl rfl rfl) (fun _ _ _ _ h => h) hr (by decide) (pe_gn (v := .ref a.Gift) (by rfl) T.o_Gift.mg rfl) (pa_cons (pv 1) (pa_cons (pe_ix (r := rIx W.K) ix_U (pv 0) pe_int (fun _ _ => rfl)) (pa_cons (pe_ix (r := rIx W.K) ix_U (pv 0) pe_int (fun _ _ => rfl)) (pa_cons (pe_ix (r := rIx W.K) ix_U (pv 0) pe_int (fun _ _ => rfl)) pa_nil))))))) (pe_lst (pa_cons pe_str (pa_cons (pe_callB (r := rRepX W.K a.Ratio a.Move) (call_repX T (L2H.roomH_of hr) (by decide) hgd) (by rfl) T.b_repr (by decide +kernel) (pa_cons (pv 1) pa_nil)) (pa_cons pe_bl pa_nil)))) (nomark _))))))), fun π rs kr hp hT hB => ?_⟩)
  obtain ⟨t, s, g, x, rfl, h1, h2, h3, hx, tx, q⟩ := hB
  have ov := oMv_ok h1 h2 h3
  dsimp only [uns, List.replicate, List.cons_append, List.nil_append]
  repeat walk_at "wk"
  refine w_toldO (tbR_2 T hT) rfl ov (fun E => wx_smx ?_) ?_
  · repeat walk_at "wk"
    refine w_ratio2 ?_
    repeat walk_at "wk"
    refine ⟨1, 2, rfl, by decide, sz_mono (n := 4000) (sz_lit (by decide)) (by decide), sz_mono (n := 4000) (sz_lit (by decide)) (by decide), ?_⟩
    repeat first | walk_at "wk" | refine wop_ixL rfl rfl ?_
    exact wcb_U (rs := [.d (ratQ a.Ratio (Rat.divInt 1 2)), .d t, .d s, .d g]) rfl rfl (oSg_mk (NumQ.rat _) (by decide +kernel) (sz_lit (by decide +kernel)) h1 h2 h3)
  repeat walk_at "wk"
  refine wg_new fun p1 => ?_
  dsimp only [List.set]
  repeat walk_at "wk"
  case hz => exact (by show 1 < 4000; decide)
  refine w_toldO (tbR_2 T hT) rfl ov (fun E => wx_smx ?_) ?_
  · repeat first | walk_at "wk" | refine wop_ixL rfl rfl ?_
    exact wcb_U (rs := [.d (.int 3), .d t, .d s, .d g]) rfl rfl (oSg_mk (NumQ.int 3) (by decide) (sz_lit (by decide +kernel)) h1 h2 h3)
  repeat walk_at "wk"
  refine wcb_W0 (rs := [.d (.lst [t, s, g])]) rfl rfl ⟨t, s, g, rfl, h1, h2, h3, fun z => (by cases z), ?_⟩
  repeat walk_at "wk"
  refine wop_mulL rfl (by decide) (by decide) (by show 1 * 2 ≤ 4000; decide) ?_
  refine wop_neT (a := a) (os := [oMv a t s g, oMv a t s g]) rfl rfl (fun o ho => by
    simp only [List.mem_cons, List.not_mem_nil, or_false] at ho
    rcases ho with rfl | rfl <;> exact ov) ?_
  repeat walk_at "wk"
  refine w_toldO (o := oNm a x) (tbR_2 T hT) rfl (.num tx) (fun E => wx_smx ?_) ?_
  · repeat first | walk_at "wk" | refine wop_ixL rfl rfl ?_
    exact wcb_U (rs := [.d x, .d t, .d s, .d g]) rfl rfl (.inr (.inl ⟨x, t, s, g, rfl, hx, rfl, rfl⟩))
  repeat walk_at "wk"
  refine wcb_repX (txOf_ok tx).1 ?_
  repeat walk_at "wk"
  exact wop_eqO1 (a := a) (o := oNm a x) rfl rfl (.num tx) (out_d q)
end Lw
namespace Dt
open PySem PySem.Spec PyProof.Rows L2 Ly
/-- xs[i] = e, an own list -/
theorem ws_lput {π : Po} {δ : List Rv} {k : Ke} {n : Nat} {p : Addr} {ds : List D} {te ti : TE} (h : δ[n]? = some (.own p (.lst ds))) (q : Wp π te δ fun r => Wp π ti δ fun s => ∃ x i j, r.fz = some x ∧ s = .d (.int i) ∧ ixN ds.length i = some j ∧ k.nx (δ.set n (.own p (.lst (ds.set j x))))) : Ws π (tAsg te (gSub (tVar n) ti rSetL)) k δ := fun H0 X0 L X H σ D iv ev ow en => by
  refine q X H σ _ iv.ok ev fun v r H1 k1 ra w => ?_
  have iv1 := iv.keep k1
  have ev1 := ev.keep iv.ok k1
  obtain ⟨v1, e1, rfl, xp, np, a⟩ := ev1.get h (fun z => by cases z)
  refine ⟨.ref p, e1, ?_⟩
  refine w X H1 σ _ iv1.ok ev1 fun y s H2 k2 rs w2 => ?_
  obtain ⟨x, i, j, hf, rfl, hj, kn⟩ := w2
  cases rs
  have iv2 := iv1.keep k2
  have ev2 := ev1.keep iv1.ok k2
  obtain ⟨_, e2', _, _, _, vs, hp, t2⟩ := ev2.get h (fun z => by cases z)
  have ax := (ra.keep iv1.ok k1 iv.ok k2).fz iv.ok hf
  have m := mut_mo (H := H2) (o := .lst (vs.set j v)) xp
  refine ⟨p, vs, i, j, rfl, rfl, hp, by rw [t2.length]; exact hj, ?_⟩
  refine en.nx X _ σ _ (iv2.mut xp np (ow n _ p h rfl).1 (by rw [hp]; exact nco_lst)) (ev2.mut h xp (.lst (ds.set j x)) np ⟨_, upd_same, Ats.set j (ax.mono m) (t2.mono m)⟩) (ow.mut h) (((iv.ok.fr k1).trans (iv1.ok.fr k2)).trans ⟨m, fun a h => ?_⟩) kn
  by_cases ha : a = p
  · rw [ha, upd_same]; exact fun z => by cases z
  · rw [upd_ne ha]; exact h
/-- a row of four that is a chain up to n alone -/
structure Brk (K : PySem.W.Frag) (M : Addr) (ds : List D) (n : Nat) : Prop where
  ex : ∃ os, MvL K M ds os ∧ os.length = 4 ∧ brk os = some n ∧ brk (os.take 2) = (if n < 2 then some n else none) ∧ brk (os.take 1) = if n < 1 then some n else none
section
variable {K : PySem.W.Frag} {M : Addr} {s0 s1 s2 s3 s4 t0 t1 t2 t3 : Str} {x : D} {o : Option M3}
theorem brk_0 (h : MvE K M x none) : Brk K M [x, mvT M (t1, s1, s2), mvT M (t2, s2, s3), mvT M (t3, s3, s4)] 0 :=
  ⟨[none, some (t1, s1, s2), some (t2, s2, s3), some (t3, s3, s4)], .cons h (.cons (.mv _) (.cons (.mv _) (.cons (.mv _) .nil))), rfl, rfl, rfl, rfl⟩
theorem brk_1 (h : MvE K M x o) (d01 : ¬ s0 = s1) (bad : ∀ m, o = some m → m.2.1 ≠ s1 ∨ m.2.2 = s0) : Brk K M [mvT M (t0, s0, s1), x, mvT M (t2, s2, s3), mvT M (t3, s3, s4)] 1 := by
  have e1 : ¬ s1 = s0 := fun z => d01 z.symm
  refine ⟨[some (t0, s0, s1), o, some (t2, s2, s3), some (t3, s3, s4)], .cons (.mv _) (.cons h (.cons (.mv _) (.cons (.mv _) .nil))), rfl, ?_, ?_, ?_⟩
  · cases o with
    | none => simp [brk, brk1, e1]
    | some m =>
      have b := bad m rfl
      simp [brk, brk1, e1]
      intro z1 z2
      rcases b with b | b
      · exact absurd z1 b
      · exact absurd b z2
  · cases o with
    | none => simp [brk, brk1, e1]
    | some m =>
      have b := bad m rfl
      simp [brk, brk1, e1]
      intro z1 z2
      rcases b with b | b
      · exact absurd z1 b
      · exact absurd b z2
  · simp [brk, brk1, e1]
theorem brk_2 (h : MvE K M x o) (d01 : ¬ s0 = s1) (d02 : ¬ s0 = s2) (d12 : ¬ s1 = s2) (bad : ∀ m, o = some m → m.2.1 ≠ s2 ∨ m.2.2 = s0 ∨ m.2.2 = s1) : Brk K M [mvT M (t0, s0, s1), mvT M (t1, s1, s2), x, mvT M (t3, s3, s4)] 2 := by
  have e1 : ¬ s1 = s0 := fun z => d01 z.symm
  have e2 : ¬ s2 = s0 := fun z => d02 z.symm
  have e3 : ¬ s2 = s1 := fun z => d12 z.symm
  refine ⟨[some (t0, s0, s1), some (t1, s1, s2), o, some (t3, s3, s4)], .cons (.mv _) (.cons (.mv _) (.cons h (.cons (.mv _) .nil))), rfl, ?_, ?_, ?_⟩
  · cases o with
    | none => simp [brk, brk1, e1, e2, e3]
    | some m =>
      have b := bad m rfl
      simp [brk, brk1, e1, e2, e3]
      intro z1 z2 z3
      rcases b with b | b | b
      · exact absurd z1 b
      · exact absurd b z2
      · exact absurd b z3
  · simp [brk, brk1, e1, e2, e3]
  · simp [brk, brk1, e1, e2, e3]
theorem brk_3 (h : MvE K M x o) (d01 : ¬ s0 = s1) (d02 : ¬ s0 = s2) (d12 : ¬ s1 = s2) (d03 : ¬ s0 = s3) (d13 : ¬ s1 = s3) (d23 : ¬ s2 = s3) (bad : ∀ m, o = some m → m.2.1 ≠ s3 ∨ m.2.2 = s0 ∨ m.2.2 = s1 ∨ m.2.2 = s2) : Brk K M [mvT M (t0, s0, s1), mvT M (t1, s1, s2), mvT M (t2, s2, s3), x] 3 := by
  have e1 : ¬ s1 = s0 := fun z => d01 z.symm
  have e2 : ¬ s2 = s0 := fun z => d02 z.symm
  have e3 : ¬ s2 = s1 := fun z => d12 z.symm
  have e4 : ¬ s3 = s0 := fun z => d03 z.symm
  have e5 : ¬ s3 = s1 := fun z => d13 z.symm
  have e6 : ¬ s3 = s2 := fun z => d23 z.symm
  refine ⟨[some (t0, s0, s1), some (t1, s1, s2), some (t2, s2, s3), o], .cons (.mv _) (.cons (.mv _) (.cons (.mv _) (.cons h .nil))), rfl, ?_, ?_, ?_⟩
  · cases o with
    | none => simp [brk, brk1, e1, e2, e3, e4, e5, e6]
    | some m =>
      have b := bad m rfl
      simp [brk, brk1, e1, e2, e3, e4, e5, e6]
      intro z1 z2 z3 z4
      rcases b with b | b | b | b
      · exact absurd z1 b
      · exact absurd b z2
      · exact absurd b z3
      · exact absurd b z4
  · simp [brk, brk1, e1, e2, e3, e4, e5, e6]
  · simp [brk, brk1, e1, e2, e3, e4, e5, e6]
end
end Dt
namespace Lw
open PySem PySem.Spec PyProof.Rows L2 Ly Dt LamX
local macro_rules | `(tactic| walk_at "wk") => `(tactic| first
  | ((with_reducible refine' w_var ?hv ?hn ?_); (case hv => exact rfl); (case hn => (intro z; cases z)))
  | with_reducible refine w_int ?_
  | with_reducible refine w_str ?_
  | with_reducible refine w_op ?_
  | with_reducible refine wa_cons ?_
  | with_reducible refine wa_nil ?_
  | with_reducible refine w_reprL ?_
  | with_reducible refine w_isi2 ?_
  | with_reducible refine w_cb ?_
  | with_reducible refine w_call ?_
  | ((with_reducible refine' ws_retV ?hv ?_); (case hv => exact rfl))
  | with_reducible refine ws_seq ?_
  | with_reducible refine ws_asg ?_
  | with_reducible refine ws_ret ?_
  | with_reducible refine ws_if ?_
  | with_reducible refine ws_next ?_
  | ((with_reducible refine' ws_append ?hv ?hz ?_); (case hv => exact rfl); rotate_left)
  | with_reducible refine ws_drop ?_
  | with_reducible refine ws_retN ?_
  | ((with_reducible refine wg_d ?_); dsimp only [List.set])
  | ((with_reducible refine wg_raw ?_); dsimp only [List.set])
  | ((with_reducible refine wg_E ?_))
  | ((with_reducible refine' we_tup ?hl ?_); (case hl => exact rfl))
  | with_reducible refine wes_cons ?_
  | with_reducible refine wes_nil ?_
  | ((with_reducible refine we_name ?_); dsimp only [List.set])
  | with_reducible refine out_d ?_
  | with_reducible refine out_new ?_
  | with_reducible refine ex_bl ?_
  | with_reducible refine ite_t ?_
  | ((with_reducible refine ex_fzd ?_); dsimp only [List.set, List.nil_append, List.cons_append])
  | ((with_reducible refine ex_fzn ?_); dsimp only [List.set, List.nil_append, List.cons_append])
  | with_reducible refine ite_nt ?_
  | with_reducible refine ite_nf ?_
  | with_reducible refine ite_f ?_
  | with_reducible refine wt_tb ?_
  | with_reducible refine wt_test ?_
  | with_reducible refine wt_and ?_
  | with_reducible refine wt_or ?_
  | with_reducible refine wt_not ?_
  | with_reducible refine w_andV ?_
  | with_reducible refine w_orV ?_
  | with_reducible refine w_notV ?_
  | with_reducible refine w_if ?_
  | with_reducible refine w_bl ?_
  | with_reducible refine w_non ?_
  | with_reducible refine w_ty ?_
  | with_reducible refine w_ref ?_
  | with_reducible refine w_un ?_
  | ((with_reducible refine w_tup ?_); skip)
  | ((with_reducible refine w_lst ?_); skip)
  | ((with_reducible refine' Exists.intro _ (And.intro ?hf (And.intro ?hl ?_))); (case hf => exact rfl); (case hl => exact Nat.le_of_ble_eq_true rfl))
  | with_reducible refine w_fld ?_
  | ((with_reducible refine' fld_of ?ho ?c ?n ?l ?_); (case ho => exact rfl); (case c => assumption); (case n => with_reducible assumption); (case l => exact rfl))
  | with_reducible refine wp_top ?_
  | with_reducible refine wp_bot ?_
  | with_reducible refine w_prop ?_
  | with_reducible refine w_meth ?_
  | with_reducible refine w_smeth ?_
  | with_reducible refine wop_addI ?_
  | with_reducible refine wop_subI ?_
  | ((with_reducible refine' wop_mulI ?c ?_); rotate_left)
  | ((with_reducible refine' wop_fdI ?c ?_); rotate_left)
  | with_reducible refine wop_mdI (by first | decide | assumption) ?_
  | ((with_reducible refine' wop_mdI ?c ?_); rotate_left)
  | ((with_reducible refine' wop_I0 ?e ?_); (case e => exact rfl))
  | ((with_reducible refine' wop_ixT ?e ?_); (case e => exact rfl))
  | ((with_reducible refine' wcb_lenL ?e ?_); (case e => exact rfl))
  | with_reducible refine wcb_lenT ?_
  | ((with_reducible refine' wop_fdX ?c ?_); rotate_left)
  | ((with_reducible refine' wun_U ?e ?_); (case e => exact rfl))
  | with_reducible refine wop_eqI ?_
  | with_reducible refine wop_neI ?_
  | with_reducible refine wop_eqS ?_
  | with_reducible refine wop_neS ?_
  | with_reducible refine wop_isN ?_
  | with_reducible refine wop_notN ?_
  | ((with_reducible refine' wop_inS ?e ?_); (case e => exact rfl))
  | ((with_reducible refine' wop_niS ?e ?_); (case e => exact rfl))
  | with_reducible refine wop_inST ?_
  | with_reducible refine wcb_gcd ?_
  | with_reducible refine wcb_abs ?_
  | with_reducible refine wcb_max2 ?_
  | with_reducible refine wcb_min2 ?_
  | with_reducible refine wcb_int ?_
  | ((with_reducible refine' wcb_isi (b := true) ?ho ?hb ?_); (case ho => exact rfl); (case hb => (dsimp only [tyN]; decide +kernel)))
  | ((with_reducible refine' wcb_isi (b := false) ?ho ?hb ?_); (case ho => exact rfl); (case hb => (dsimp only [tyN]; decide +kernel)))
  | ((with_reducible refine' wcb_listOf ?e ?_); (case e => exact rfl))
  | with_reducible refine wcb_listOfT ?_
  | ((with_reducible refine' wcb_tupOf ?e ?_); (case e => exact rfl))
  | with_reducible refine w_chain ?_
  | with_reducible refine wcb_strS ?_
  | ((with_reducible refine' wcb_lenD ?e ?_); (case e => exact rfl))
  | ((with_reducible refine' wcb_listD ?e ?_); (case e => exact rfl))
  | with_reducible refine w_dnewK ?_
  | with_reducible refine w_dget ?_
  | with_reducible refine w_din ?_
  | with_reducible refine w_dni ?_
  | with_reducible refine w_lenSet ?_
  | with_reducible refine w_listVals ?_
  | with_reducible refine w_chain ?_
  | ((with_reducible refine' wt_yes ?_)))
variable {W : Wd} {a : Ad}
theorem k_law_broken (T : Txt W.K W.mg a) : Cl W 8 "_law_broken" (spW true fun rs k => rs = [.pot] ∧ ∀ (ds : List D) (n : Nat), n < 4 → Brk W.K a.Move ds n → k (.d (.tup [.lst ds, .int (n : Nat)]))) := by
  refine cl_W T.d_law_broken sc_law_broken bd_law_broken (fun rs k ⟨h, _⟩ => by rw [h]; rfl) (body_W (n := 1) (m := 5) rfl (fun rs k ⟨h, _⟩ => by rw [h]; rfl) fun f cdv A outer s H E hr => ⟨_, (pss_cons (ps_set (i := 1) sc_law_broken.nd rfl (Or.inr rfl) (pe_cl (kd_law_named T) hr (by decide) rfl (pa_cons (pv 0) (pa_cons pe_int (pa_cons (pe_lst pa_nil) pa_nil))))) (pss_cons (ps_setLc (i := 2) (own := [("_law_turn", 5)]) (g := (gName 5)) (tt := tYes) rfl sc_law_broken.nd rfl rfl (sw_true rfl rfl rfl (by decide +kernel)) (pi_range1 rfl T.b_range (pa_cons pe_int pa_nil)) (blkOk_by (N := N_law_broken) (sc := defScope s_law_broken) (by decide +kernel)) (fun _ _ _ _ _ => (pg_name (i := 5) sc_law_broken.nd rfl (Or.inl rfl))) (fun _ _ _ _ _ => pts_nil) (fun _ _ _ _ _ => (pe_mak (m_Move3 T) hr (by decide) rfl (pa_cons (pe_cl (k_law_pick T) hr (by decide) rfl (pa_cons (pv 0) (pa_cons (pv 1) pa_nil))) (pa_cons (pe_ix (r := rIx W.K) ix_U (pv 1) (pv 5) (fun _ _ => rfl)) (pa_cons (pe_ix (r := rIx W.K) ix_U (pv 1) (pe_op op_addU (pv 5) pe_int) (fun _ _ => rfl)) pa_nil)))))) (pss_cons (ps_par (i := 3) (j := 4) (by rfl) sc_law_broken.nd rfl rfl (by decide) rfl rfl (pa_cons (pe_cl (k_law_draw T) hr (by decide) rfl (pa_cons (pv 0) (pa_cons pe_int pa_nil))) (pa_cons (pe_cl (k_law_draw T) hr (by decide) rfl (pa_cons (pv 0) (pa_cons pe_int pa_nil))) pa_nil)) (by rfl)) (pss_cons (ps_if (PW.pt (pw_or (pt_cmpR (r := rEqU W.K) (op_eqU hr.units) (pv 4) pe_int (nomark _)) (pw_or1 (pt_cmpR (r := rEqU W.K) (op_eqU hr.units) (pv 3) pe_int (nomark _))))) (pss_one (ps_asg (pe_cl (k_law_pick T) hr (by decide) rfl (pa_cons (pv 0) (pa_cons (pe_lst (pa_cons pe_non (pa_cons pe_str (pa_cons pe_int (pa_cons (pe_lst (pa_cons (pe_ix (r := rIx W.K) ix_U (pv 2) (pv 3) (fun _ _ => rfl)) pa_nil)) (pa_cons (pe_tup (pa_cons (pe_ix (r := rIx W.K) ix_U (pv 1) pe_int (fun _ _ => rfl)) (pa_cons (pe_ix (r := rIx W.K) ix_U (pv 1) pe_int (fun _ _ => rfl)) pa_nil))) (pa_cons (pe_mak (m_Ratio1 T) hr (by decide) rfl (pa_cons pe_int pa_nil)) (pa_cons pe_bl pa_nil)))))))) pa_nil))) (pg_sub (pv 2) (pv 3) set_list))) (pss_one (ps_if (pt_cmpR (r := rEqU W.K) (op_eqU hr.units) (pv 4) pe_int (nomark _)) (pss_one (ps_asg (pe_mak (m_Move3 T) hr (by decide) rfl (pa_cons pe_str (pa_cons (pe_ix (r := rIx W.K) ix_U (pv 1) pe_int (fun _ _ => rfl)) (pa_cons (pe_ix (r := rIx W.K) ix_U (pv 1) (pe_op op_addU (pv 3) pe_int) (fun _ _ => rfl)) pa_nil)))) (pg_sub (pv 2) (pv 3) set_list))) (pss_one (ps_if (pt_cmpR (r := rEqU W.K) (op_eqU hr.units) (pv 4) pe_int (nomark _)) (pss_one (ps_asg (pe_mak (m_Move3 T) hr (by decide) rfl (pa_cons pe_str (pa_cons (pe_ix (r := rIx W.K) ix_U (pv 1) (pv 3) (fun _ _ => rfl)) (pa_cons (pe_ix (r := rIx W.K) ix_U (pv 1) (pe_cl (k_law_draw T) hr (by decide) rfl (pa_cons (pv 0) (pa_cons (pv 3) pa_nil))) (fun _ _ => rfl)) pa_nil)))) (pg_sub (pv 2) (pv 3) set_list))) (pss_one (ps_asg (pe_ix (r := rIx W.K) ix_U (pv 2) (pe_op op_subU (pv 3) pe_int) (fun _ _ => rfl)) (pg_sub (pv 2) (pv 3) set_list)))))))) (pss_one (ps_ret (pe_tup (pa_cons (pv 2) (pa_cons (pv 3) pa_nil))))))))), fun π rs kr hp hB => ?_⟩)
  obtain ⟨rfl, q⟩ := hB
  dsimp only [uns, List.replicate, List.cons_append, List.nil_append]
  repeat walk_at "wk"
  refine wcb_named hp (tk := []) rfl (by decide) (by decide) fun ss sl sn so => ?_
  refine wg_new fun p1 => ?_
  dsimp only [List.set]
  refine ws_frz (n := 1) rfl ?_
  dsimp only [List.set]
  match ss, sl, sn, so with
  | [s0, s1, s2, s3, s4, s5], _, sn, so => ?_
  have nm : ∀ s ∈ [s0, s1, s2, s3, s4, s5], nmB s = true := fun s h => nm_nmB (so s h).1
  simp only [List.nodup_cons, List.mem_cons, List.not_mem_nil, or_false, not_or, List.nodup_nil, and_true, not_false_eq_true] at sn
  obtain ⟨⟨d01, d02, d03, d04, d05⟩, ⟨d12, d13, d14, d15⟩, ⟨d23, d24, d25⟩, ⟨d34, d35⟩, d45⟩ := sn
  repeat walk_at "wk"
  refine w_lc1 (j := 5) (by decide) (fun i _ x => ∃ t : Str, nmB t = true ∧ x = match i with
    | 0 => mvT a.Move (t, s0, s1)
    | 1 => mvT a.Move (t, s1, s2)
    | 2 => mvT a.Move (t, s2, s3)
    | _ => mvT a.Move (t, s3, s4)) (wi_rng1 ?_)
  repeat walk_at "wk"
  refine ⟨4, rfl, by decide, by decide, by rw [rng_len]; decide, fun i d hd => ?_, fun xs lx hx => ?_⟩
  · dsimp only [List.map, wipeD, List.set]
    have hi : i < 4 := by
      have := (List.getElem?_eq_some_iff.mp hd).1
      rw [rng_len] at this
      exact this
    rw [rng_get (by exact hi)] at hd
    cases hd
    have pk : ∀ d ∈ [D.str s0, D.str s1, D.str s2, D.str s3, D.str s4, D.str s5], ∃ t, d = .str t ∧ nmB t = true := fun d hd => by
      simp only [List.mem_cons, List.not_mem_nil, or_false] at hd
      rcases hd with rfl | rfl | rfl | rfl | rfl | rfl <;> exact ⟨_, rfl, nm _ (by simp)⟩
    have hi4 : i = 0 ∨ i = 1 ∨ i = 2 ∨ i = 3 := by omega
    rcases hi4 with rfl | rfl | rfl | rfl
    all_goals
      refine w_make (drs := []) trivial ?_
      repeat walk_at "wk"
      refine wcb_pick hp rfl (by simp) (by show 6 ≤ 4000; decide) fun d hd => ?_
      obtain ⟨t, rfl, ht⟩ := pk d hd
      repeat first | walk_at "wk" | refine wop_ixL rfl rfl ?_
    · exact ⟨_, rfl, rfl, rfl, t, s0, s1, rfl, ht, nm _ (by simp), nm _ (by simp), fun z => d01 z.symm, _, rfl, t, ht, rfl⟩
    · exact ⟨_, rfl, rfl, rfl, t, s1, s2, rfl, ht, nm _ (by simp), nm _ (by simp), fun z => d12 z.symm, _, rfl, t, ht, rfl⟩
    · exact ⟨_, rfl, rfl, rfl, t, s2, s3, rfl, ht, nm _ (by simp), nm _ (by simp), fun z => d23 z.symm, _, rfl, t, ht, rfl⟩
    · exact ⟨_, rfl, rfl, rfl, t, s3, s4, rfl, ht, nm _ (by simp), nm _ (by simp), fun z => d34 z.symm, _, rfl, t, ht, rfl⟩
  rw [rng_len] at lx
  match xs, lx, hx with
  | [x0, x1, x2, x3], _, hx => ?_
  obtain ⟨t0, n0, e0⟩ := hx 0 _ x0 (rng_get (by decide)) rfl
  have e0 : x0 = mvT a.Move (t0, s0, s1) := e0
  subst e0
  obtain ⟨t1, n1, e1⟩ := hx 1 _ x1 (rng_get (by decide)) rfl
  have e1 : x1 = mvT a.Move (t1, s1, s2) := e1
  subst e1
  obtain ⟨t2, n2, e2⟩ := hx 2 _ x2 (rng_get (by decide)) rfl
  have e2 : x2 = mvT a.Move (t2, s2, s3) := e2
  subst e2
  obtain ⟨t3, n3, e3⟩ := hx 3 _ x3 (rng_get (by decide)) rfl
  have e3 : x3 = mvT a.Move (t3, s3, s4) := e3
  subst e3
  clear hx
  dsimp only
  refine wg_new fun p2 => ?_
  dsimp only [List.set]
  repeat walk_at "wk"
  refine ws_par ?_
  repeat walk_at "wk"
  refine wcb_draw (by decide) (sz_lit (by decide)) fun at_ a0 a1 => ?_
  repeat walk_at "wk"
  refine wcb_draw (by decide) (sz_lit (by decide)) fun way w0 w1 => ?_
  repeat walk_at "wk"
  refine ⟨_, _, rfl, ?_⟩
  dsimp only [List.set]
  refine ws_seq (ws_cut (I := fun δ => ∃ ds, δ = [.pot, .d (.lst ([s0, s1, s2, s3, s4, s5].map .str)), .own p2 (.lst ds), .d (.int at_), .d (.int way), .un] ∧ Brk W.K a.Move ds at_.toNat) ?_ ?_)
  · have h4 : at_ = 0 ∨ at_ = 1 ∨ at_ = 2 ∨ at_ = 3 := by omega
    have odd : ∀ z : D, ∀ d ∈ [D.non, .str "a", .int 3, .lst [z], .tup [.str s0, .str s1], ratQ a.Ratio 2, .bl true], MvE W.K a.Move d none := fun z d hd => by
      simp only [List.mem_cons, List.not_mem_nil, or_false] at hd
      rcases hd with rfl | rfl | rfl | rfl | rfl | rfl | rfl
      · exact .non rfl T.k_NoneType_Move
      · exact .non rfl T.k_str_Move
      · exact .non rfl T.k_int_Move
      · exact .non rfl T.k_list_Move
      · exact .non rfl T.k_tuple_Move
      · exact .own T.o_Ratio T.z_Ratio_Move
      · exact .non rfl T.k_bool_Move
    rcases h4 with rfl | rfl | rfl | rfl
    · repeat walk_at "wk"
      by_cases hw : way = 0
      · rw [decide_eq_true hw, if_pos rfl, if_pos rfl]
        refine ws_lput rfl ?_
        repeat first | walk_at "wk" | refine wop_ixL rfl rfl ?_
        refine w_ratio1 ?_
        repeat first | walk_at "wk" | refine wop_ixL rfl rfl ?_
        refine wcb_pick hp rfl (by simp) (by show 7 ≤ 4000; decide) fun d hd => ?_
        have me := odd _ d hd
        repeat walk_at "wk"
        exact ⟨d, _, _, rfl, rfl, rfl, _, rfl, brk_0 me⟩
      · rw [decide_eq_false hw, if_neg (by decide)]
        repeat walk_at "wk"
        rw [decide_eq_true rfl, if_pos rfl]
        refine ws_lput rfl ?_
        repeat first | walk_at "wk" | refine wop_ixL rfl rfl ?_
        refine w_ratio1 ?_
        repeat first | walk_at "wk" | refine wop_ixL rfl rfl ?_
        refine wcb_pick hp rfl (by simp) (by show 7 ≤ 4000; decide) fun d hd => ?_
        have me := odd _ d hd
        repeat walk_at "wk"
        exact ⟨d, _, _, rfl, rfl, rfl, _, rfl, brk_0 me⟩
    · repeat walk_at "wk"
      by_cases hw : way = 0
      · rw [decide_eq_true hw, if_pos rfl, if_pos rfl]
        refine ws_lput rfl ?_
        repeat first | walk_at "wk" | refine wop_ixL rfl rfl ?_
        refine w_ratio1 ?_
        repeat first | walk_at "wk" | refine wop_ixL rfl rfl ?_
        refine wcb_pick hp rfl (by simp) (by show 7 ≤ 4000; decide) fun d hd => ?_
        have me := odd _ d hd
        repeat walk_at "wk"
        exact ⟨d, _, _, rfl, rfl, rfl, _, rfl, brk_1 me d01 (fun m e => by cases e)⟩
      · rw [decide_eq_false hw, if_neg (by decide)]
        repeat walk_at "wk"
        rw [decide_eq_false (show ¬ (1 : Int) = 0 by decide), if_neg (by decide)]
        repeat walk_at "wk"
        by_cases h1 : way = 1
        · rw [decide_eq_true h1, if_pos rfl]
          refine ws_lput rfl (w_make (drs := []) trivial ?_)
          repeat first | walk_at "wk" | refine wop_ixL rfl rfl ?_
          refine ⟨_, rfl, rfl, rfl, "a", s5, s2, rfl, by decide +kernel, nm _ (by simp), nm _ (by simp), (fun z => d25 z), ?_⟩
          repeat walk_at "wk"
          exact ⟨mvT a.Move ("a", s5, s2), _, _, rfl, rfl, rfl, _, rfl, brk_1 (.mv _) d01 (fun m e => by cases e; exact .inl (fun z => d15 z.symm))⟩
        · rw [decide_eq_false h1, if_neg (by decide)]
          repeat walk_at "wk"
          by_cases h2 : way = 2
          · rw [decide_eq_true h2, if_pos rfl]
            refine ws_lput rfl (w_make (drs := []) trivial ?_)
            repeat first | walk_at "wk" | refine wop_ixL rfl rfl ?_
            refine wcb_draw (by decide) (sz_lit (by decide)) fun dj j0 j1 => ?_
            have hj : dj = 0 := by omega
            subst hj
            repeat first | walk_at "wk" | refine wop_ixL rfl rfl ?_
            refine ⟨_, rfl, rfl, rfl, "a", s1, s0, rfl, by decide +kernel, nm _ (by simp), nm _ (by simp), (fun z => d01 z), ?_⟩
            repeat walk_at "wk"
            exact ⟨mvT a.Move ("a", s1, s0), _, _, rfl, rfl, rfl, _, rfl, brk_1 (.mv _) d01 (fun m e => by cases e; exact .inr rfl)⟩
          · rw [decide_eq_false h2, if_neg (by decide)]
            refine ws_lput rfl ?_
            repeat first | walk_at "wk" | refine wop_ixL rfl rfl ?_
            exact ⟨mvT a.Move (t0, s0, s1), _, _, rfl, rfl, rfl, _, rfl, brk_1 (.mv _) d01 (fun m e => by cases e; exact .inl (fun z => d01 z))⟩
    · repeat walk_at "wk"
      by_cases hw : way = 0
      · rw [decide_eq_true hw, if_pos rfl, if_pos rfl]
        refine ws_lput rfl ?_
        repeat first | walk_at "wk" | refine wop_ixL rfl rfl ?_
        refine w_ratio1 ?_
        repeat first | walk_at "wk" | refine wop_ixL rfl rfl ?_
        refine wcb_pick hp rfl (by simp) (by show 7 ≤ 4000; decide) fun d hd => ?_
        have me := odd _ d hd
        repeat walk_at "wk"
        exact ⟨d, _, _, rfl, rfl, rfl, _, rfl, brk_2 me d01 d02 d12 (fun m e => by cases e)⟩
      · rw [decide_eq_false hw, if_neg (by decide)]
        repeat walk_at "wk"
        rw [decide_eq_false (show ¬ (2 : Int) = 0 by decide), if_neg (by decide)]
        repeat walk_at "wk"
        by_cases h1 : way = 1
        · rw [decide_eq_true h1, if_pos rfl]
          refine ws_lput rfl (w_make (drs := []) trivial ?_)
          repeat first | walk_at "wk" | refine wop_ixL rfl rfl ?_
          refine ⟨_, rfl, rfl, rfl, "a", s5, s3, rfl, by decide +kernel, nm _ (by simp), nm _ (by simp), (fun z => d35 z), ?_⟩
          repeat walk_at "wk"
          exact ⟨mvT a.Move ("a", s5, s3), _, _, rfl, rfl, rfl, _, rfl, brk_2 (.mv _) d01 d02 d12 (fun m e => by cases e; exact .inl (fun z => d25 z.symm))⟩
        · rw [decide_eq_false h1, if_neg (by decide)]
          repeat walk_at "wk"
          by_cases h2 : way = 2
          · rw [decide_eq_true h2, if_pos rfl]
            refine ws_lput rfl (w_make (drs := []) trivial ?_)
            repeat first | walk_at "wk" | refine wop_ixL rfl rfl ?_
            refine wcb_draw (by decide) (sz_lit (by decide)) fun dj j0 j1 => ?_
            have hj : dj = 0 ∨ dj = 1 := by omega
            rcases hj with rfl | rfl
            · repeat first | walk_at "wk" | refine wop_ixL rfl rfl ?_
              refine ⟨_, rfl, rfl, rfl, "a", s2, s0, rfl, by decide +kernel, nm _ (by simp), nm _ (by simp), (fun z => d02 z), ?_⟩
              repeat walk_at "wk"
              exact ⟨mvT a.Move ("a", s2, s0), _, _, rfl, rfl, rfl, _, rfl, brk_2 (.mv _) d01 d02 d12 (fun m e => by cases e; exact .inr (.inl rfl))⟩
            · repeat first | walk_at "wk" | refine wop_ixL rfl rfl ?_
              refine ⟨_, rfl, rfl, rfl, "a", s2, s1, rfl, by decide +kernel, nm _ (by simp), nm _ (by simp), (fun z => d12 z), ?_⟩
              repeat walk_at "wk"
              exact ⟨mvT a.Move ("a", s2, s1), _, _, rfl, rfl, rfl, _, rfl, brk_2 (.mv _) d01 d02 d12 (fun m e => by cases e; exact .inr (.inr rfl))⟩
          · rw [decide_eq_false h2, if_neg (by decide)]
            refine ws_lput rfl ?_
            repeat first | walk_at "wk" | refine wop_ixL rfl rfl ?_
            exact ⟨mvT a.Move (t1, s1, s2), _, _, rfl, rfl, rfl, _, rfl, brk_2 (.mv _) d01 d02 d12 (fun m e => by cases e; exact .inl (fun z => d12 z))⟩
    · repeat walk_at "wk"
      by_cases hw : way = 0
      · rw [decide_eq_true hw, if_pos rfl, if_pos rfl]
        refine ws_lput rfl ?_
        repeat first | walk_at "wk" | refine wop_ixL rfl rfl ?_
        refine w_ratio1 ?_
        repeat first | walk_at "wk" | refine wop_ixL rfl rfl ?_
        refine wcb_pick hp rfl (by simp) (by show 7 ≤ 4000; decide) fun d hd => ?_
        have me := odd _ d hd
        repeat walk_at "wk"
        exact ⟨d, _, _, rfl, rfl, rfl, _, rfl, brk_3 me d01 d02 d12 d03 d13 d23 (fun m e => by cases e)⟩
      · rw [decide_eq_false hw, if_neg (by decide)]
        repeat walk_at "wk"
        rw [decide_eq_false (show ¬ (3 : Int) = 0 by decide), if_neg (by decide)]
        repeat walk_at "wk"
        by_cases h1 : way = 1
        · rw [decide_eq_true h1, if_pos rfl]
          refine ws_lput rfl (w_make (drs := []) trivial ?_)
          repeat first | walk_at "wk" | refine wop_ixL rfl rfl ?_
          refine ⟨_, rfl, rfl, rfl, "a", s5, s4, rfl, by decide +kernel, nm _ (by simp), nm _ (by simp), (fun z => d45 z), ?_⟩
          repeat walk_at "wk"
          exact ⟨mvT a.Move ("a", s5, s4), _, _, rfl, rfl, rfl, _, rfl, brk_3 (.mv _) d01 d02 d12 d03 d13 d23 (fun m e => by cases e; exact .inl (fun z => d35 z.symm))⟩
        · rw [decide_eq_false h1, if_neg (by decide)]
          repeat walk_at "wk"
          by_cases h2 : way = 2
          · rw [decide_eq_true h2, if_pos rfl]
            refine ws_lput rfl (w_make (drs := []) trivial ?_)
            repeat first | walk_at "wk" | refine wop_ixL rfl rfl ?_
            refine wcb_draw (by decide) (sz_lit (by decide)) fun dj j0 j1 => ?_
            have hj : dj = 0 ∨ dj = 1 ∨ dj = 2 := by omega
            rcases hj with rfl | rfl | rfl
            · repeat first | walk_at "wk" | refine wop_ixL rfl rfl ?_
              refine ⟨_, rfl, rfl, rfl, "a", s3, s0, rfl, by decide +kernel, nm _ (by simp), nm _ (by simp), (fun z => d03 z), ?_⟩
              repeat walk_at "wk"
              exact ⟨mvT a.Move ("a", s3, s0), _, _, rfl, rfl, rfl, _, rfl, brk_3 (.mv _) d01 d02 d12 d03 d13 d23 (fun m e => by cases e; exact .inr (.inl rfl))⟩
            · repeat first | walk_at "wk" | refine wop_ixL rfl rfl ?_
              refine ⟨_, rfl, rfl, rfl, "a", s3, s1, rfl, by decide +kernel, nm _ (by simp), nm _ (by simp), (fun z => d13 z), ?_⟩
              repeat walk_at "wk"
              exact ⟨mvT a.Move ("a", s3, s1), _, _, rfl, rfl, rfl, _, rfl, brk_3 (.mv _) d01 d02 d12 d03 d13 d23 (fun m e => by cases e; exact .inr (.inr (.inl rfl)))⟩
            · repeat first | walk_at "wk" | refine wop_ixL rfl rfl ?_
              refine ⟨_, rfl, rfl, rfl, "a", s3, s2, rfl, by decide +kernel, nm _ (by simp), nm _ (by simp), (fun z => d23 z), ?_⟩
              repeat walk_at "wk"
              exact ⟨mvT a.Move ("a", s3, s2), _, _, rfl, rfl, rfl, _, rfl, brk_3 (.mv _) d01 d02 d12 d03 d13 d23 (fun m e => by cases e; exact .inr (.inr (.inr rfl)))⟩
          · rw [decide_eq_false h2, if_neg (by decide)]
            refine ws_lput rfl ?_
            repeat first | walk_at "wk" | refine wop_ixL rfl rfl ?_
            exact ⟨mvT a.Move (t2, s2, s3), _, _, rfl, rfl, rfl, _, rfl, brk_3 (.mv _) d01 d02 d12 d03 d13 d23 (fun m e => by cases e; exact .inl (fun z => d23 z))⟩
  · rintro δ' ⟨ds, rfl, hb⟩
    refine ws_frz (n := 2) rfl ?_
    dsimp only [List.set]
    repeat walk_at "wk"
    have z := q ds at_.toNat (by omega) hb
    rw [show ((at_.toNat : Nat) : Int) = at_ by omega] at z
    exact z
end Lw
namespace Ly
open PySem PySem.Spec PyProof.Rows L2 StX
/-- def f(self, x, *v), called by the keyword x alone -/
def FnRk (P : Program) (w : World) (K : PySem.W.Frag) (mg : Str → Option Value) (base : Heap) (CX : CXT) (k : Nat) (f : Addr) (x : Str) (sp : Sp) : Prop :=
  ∀ (A : Around) (outer : List Env) (s : Shared) (H : Hp) (u y : Value) (v z : V) (Q : VK) (E : XK), Room k A → Env0 P w K mg base A outer s H → RelV v u → RelV z y → sp [v, z] H Q E → codeAny (model P w) A (.call (.ref f) ⟨[u], [(x, y)]⟩) (CR CX outer P w H s Q E) s
theorem fnrk_of {CX : CXT} {P : Program} {w : World} {K : PySem.W.Frag} {mg : Str → Option Value} {base : Heap} {k : Nat} {f : Addr} {name qual : Str} {params : Arguments} {body : List Stmt} {scope : Scope} {dV kV doc pm cdv ct oc : Value} {an od : Option Addr} {osl : Array (Option Value)} {N : List Str} {sp : Sp} {p1 x pv : Str}
    (lk : K.lookup f = some ⟨oc, od, .func (PySem.W.fnOf name qual params body scope dV kV doc pm an cdv ct), osl⟩) (hcd : PySem.W.codeIn K cdv qual = true) (S : FnScope N [p1, x, pv] scope) (hCX : CXUp CX)
    (hb : ∀ u y : Value, bindArgs (PySem.W.fnOf name qual params body scope dV kV doc pm an cdv ct) ⟨[u], [(x, y)]⟩ = (newTuple [] >>= fun t => pure [(p1, u), (x, y), (pv, t)]))
    (hbody : ∀ (A : Around) (outer : List Env) (s : Shared) (H : Hp) (vs : List V) (Q : VK) (E : XK), Room k (A.deeper (envOfC qual scope s.heap.objs.size f cdv)) → sp vs H Q E → ∃ t, PSs (cxOf CX P w K mg base N qual scope f cdv A outer s H E) body t ∧ t { nx := fun _ H' => Q .non H', rt := Q } (L2.start N vs) H) :
    FnRk P w K mg base CX (k + 1) f x (fun vs H Q E => ∃ v z, vs = [v, z] ∧ ∀ p, H p = none → sp [v, z, .ref p] (upd H p (.tup [])) Q E) := by
  intro A outer s H u y v z Q E hr e0 r1 r2 hsp
  obtain ⟨v', z', ev, hq⟩ := hsp
  cases ev
  have hn : H s.heap.objs.size = none := e0.hok.fresh (Nat.le_refl _)
  refine run_bnd lk hcd S hr e0 (G := fun xs H2 => ∃ p, H p = none ∧ xs = [v, z, V.ref p] ∧ H2 = upd H p (.tup [])) (fun A' Ex Q' h => ?_) fun s2 H2 xs hx hr' => ?_
  · rw [hb u y]
    refine wpAny_bind (wpAny_newTuple (wpAny_pure ?_) (Nat.zero_le _))
    have new : ObjOk P w (upd H s.heap.objs.size (.tup [])) (s.heap.push ({ cls := .type "tuple", data := .seq #[] } : Obj)) s.heap.objs.size (.tup []) := ⟨Nat.zero_le _, [], .nil, ⟨_, Heap.get?_push_size _ rfl, rfl, _, rfl⟩⟩
    have un := un_laid (fs := frs outer) (s := s) (o := ({ cls := .type "tuple", data := .seq #[] } : Obj)) (u := .tup []) hn
    exact h _ _ [v, z, V.ref s.heap.objs.size] [u, y, Value.ref s.heap.objs.size] (env0_laid e0 new) un rfl (fun e s' => hCX outer s H _ _ E e s' un (fun b o q => Heap.get?_push_of_some _ q) rfl) (.cons r1 (.cons r2 (.cons rfl .nil))) rfl ⟨_, hn, rfl, rfl⟩
  · obtain ⟨p, hp, ex, eH⟩ := hx
    subst ex eH
    exact hbody A outer s2 _ _ Q E hr' (hq p hp)
structure MakRK (W : Wd) (CXa : CXT) (k : Nat) (x : Str) (C : Addr) (a : Str) (sp : Sp) : Prop where
  ex : ∃ f : Addr, Mk W.K C f ∧ FnRk W.P W.w W.K W.mg W.base CXa k f a sp ∧ W.mg x = some (.ref C)
section
variable {X : Cx} {CX : CXT} {k j : Nat} {f C : Addr} {sp : Sp} {E : XK} {x a : Str} {kws : List Keyword} {tk : TA} {p pos : Pos}
theorem run_mkRk {pins : List (Addr × Obj)} {σ : L2.St} {H : Hp} {s : Shared} {Q : VK} {y : Value} {z : V} (M : Mk X.K C f) (F : FnRk X.prog X.w X.K X.mg X.base CX k f a sp) (hr : Room (k + 1) X.A) (hx : Passes CX X E) (I : Inv X pins σ H s) (r : RelV z y)
    (h : ∀ x dx, H x = none → H dx = none → dx ≠ x → sp [V.ref x, z] (upd (upd H dx (.own x)) x (.ins C dx [])) (fun v H2 => v = .non ∧ Q (.ref x) H2) E) : wpAny (model X.prog X.w) X.A (call (.ref C) [] [(a, y)]) (EP X pins σ Q) X.xe s := by
  have new : ∀ i, H (s.heap.objs.size + i) = none := fun i => I.hok.fresh (Nat.le_add_right _ _)
  have hq := h (s.heap.objs.size + 1) s.heap.objs.size (new 1) (new 0) (Nat.ne_of_lt (Nat.lt_succ_self _))
  have J := Inv.made (C := C) I
  refine wpAny_call (make_map (f := f) I.kIn M.makes M.init (beq_iff_eq.mp M.fn) (codeAny_mono (F _ X.stack _ _ (Value.ref (s.heap.objs.size + 1)) y _ _ _ E (hr.make C [] [(a, y)]) (J.env0.make C [] [(a, y)]) (show RelV (V.ref (s.heap.objs.size + 1)) _ from rfl) r hq) fun r' s' hq' => ?_))
  match r', hq' with
  | .error e, hq' => exact hx pins σ _ _ e s' J hq'
  | .ok (.ret u), hq' =>
    obtain ⟨v, H', I3, rv, ev, q3⟩ := J.after hq'
    subst ev
    exact ⟨rv, ⟨V.ref (s.heap.objs.size + 1), H', I3, rfl, q3⟩⟩
  | .ok .next, hq' => exact False.elim hq'
  | .ok .brk, hq' => exact False.elim hq'
  | .ok .cont, hq' => exact False.elim hq'
theorem pe_mkRK {W0 : WX} (h : MakRK ⟨X.prog, X.w, X.K, X.mg, X.base⟩ (L2.CX X.prog X.w) k x C a sp) (tx : Takes X W0) (hW : ∀ cls d σ H, E cls d H → W0 cls d σ H) (hr : Room j X.A) (hk : k + 1 ≤ j) (hg : Gl X x) (hkw : PK X kws tk)
    (hall : (backToKw pos (keywordEach kws X.env)).all (·.1.isSome) = true := by rfl) (hks : (backToKw pos (keywordEach kws X.env)).filterMap (·.1) = [a] := by rfl) (hdb : (x == ("__debug__" : Str)) = false := by decide)
    (hpl : ((backTo pos (starEach [] X.env)).any (·.1) || (backToKw pos (keywordEach kws X.env)).any (·.1.isNone)) = false := by rfl) :
    PE X (.Call (.Name x p) [] kws pos) (tMakeK C 0 1 sp gV E tNil tk) := by
  obtain ⟨f, M, F, hm⟩ := h.ex
  refine ⟨fun pins s σ H Q I h => wpAny_Call_Name_kw (ld_glob I hg hm ?_ hdb)⟩
  refine PySem.W.callWith_KW0 (h₀ := X.base) I.ok.mod.kin M.kp hall ?_ hpl
  refine thn (hkw.run pos pins s σ H _ I h) fun ws s2 hz => ?_
  obtain ⟨zs, H2, I2, rz, l1, l2, q2⟩ := hz
  refine ⟨I2.kIn, ?_⟩
  rw [hks]
  match zs, ws, rz, l2, q2 with
  | [z], [y], .cons r .nil, _, q2 => exact run_mkRk M F (hr.mono hk) (passes_call tx hW) I2 r q2
end
end Ly
namespace Dt
open PySem PySem.Spec PyProof.Rows L2 Ly
section
variable {π : Po} {δ : List Rv} {k : Rv → Prop} {kx : Kx} {E : XK} {C : Addr} {t : TA} {B : List Rv → Kx → Prop}
theorem wx_makK1X (q : WpA π t δ fun as => as.length = 1 ∧ ∃ rs, fzA as.reverse = some rs ∧ rs.all noPot = true ∧ B rs kx) : WpX π E kx (tMakeK C 0 1 (spIX C false B) gV E tNil t) δ k := fun X H σ Q o e xc h => by
  show t σ H _
  refine q X H σ _ o e fun vs as H1 k1 a w => ?_
  obtain ⟨hl, rs, hf, hN, b⟩ := w
  refine ⟨rfl, by rw [← a.length]; exact hl, ?_⟩
  intro x dx hx hdx hne
  have o1 := o.keep k1
  have a1 := (rats_rev a).fzA o hf
  exact ⟨no, X, H1, x, dx, vs.reverse, rs, kx, rfl, hx, hdx, hne, rfl, rfl, o1.none, fzA_all hf, a1.free (fzA_all hf) hN, b, (xc.up o k1).no o1⟩
end
end Dt
namespace Lw
open PySem PySem.Spec PyProof.Rows L2 Ly Dt LamX
local macro_rules | `(tactic| walk_at "wk") => `(tactic| first
  | ((with_reducible refine' w_var ?hv ?hn ?_); (case hv => exact rfl); (case hn => (intro z; cases z)))
  | with_reducible refine w_int ?_
  | with_reducible refine w_str ?_
  | with_reducible refine w_op ?_
  | with_reducible refine wa_cons ?_
  | with_reducible refine wa_nil ?_
  | with_reducible refine w_reprL ?_
  | with_reducible refine w_isi2 ?_
  | with_reducible refine w_cb ?_
  | with_reducible refine w_call ?_
  | ((with_reducible refine' ws_retV ?hv ?_); (case hv => exact rfl))
  | with_reducible refine ws_seq ?_
  | with_reducible refine ws_asg ?_
  | with_reducible refine ws_ret ?_
  | with_reducible refine ws_if ?_
  | with_reducible refine ws_next ?_
  | ((with_reducible refine' ws_append ?hv ?hz ?_); (case hv => exact rfl); rotate_left)
  | with_reducible refine ws_drop ?_
  | with_reducible refine ws_retN ?_
  | ((with_reducible refine wg_d ?_); dsimp only [List.set])
  | ((with_reducible refine wg_raw ?_); dsimp only [List.set])
  | ((with_reducible refine wg_E ?_))
  | ((with_reducible refine' we_tup ?hl ?_); (case hl => exact rfl))
  | with_reducible refine wes_cons ?_
  | with_reducible refine wes_nil ?_
  | ((with_reducible refine we_name ?_); dsimp only [List.set])
  | with_reducible refine out_d ?_
  | with_reducible refine out_new ?_
  | with_reducible refine ex_bl ?_
  | with_reducible refine ite_t ?_
  | ((with_reducible refine ex_fzd ?_); dsimp only [List.set, List.nil_append, List.cons_append])
  | ((with_reducible refine ex_fzn ?_); dsimp only [List.set, List.nil_append, List.cons_append])
  | with_reducible refine ite_nt ?_
  | with_reducible refine ite_nf ?_
  | with_reducible refine ite_f ?_
  | with_reducible refine wt_tb ?_
  | with_reducible refine wt_test ?_
  | with_reducible refine wt_and ?_
  | with_reducible refine wt_or ?_
  | with_reducible refine wt_not ?_
  | with_reducible refine w_andV ?_
  | with_reducible refine w_orV ?_
  | with_reducible refine w_notV ?_
  | with_reducible refine w_if ?_
  | with_reducible refine w_bl ?_
  | with_reducible refine w_non ?_
  | with_reducible refine w_ty ?_
  | with_reducible refine w_ref ?_
  | with_reducible refine w_un ?_
  | ((with_reducible refine w_tup ?_); skip)
  | ((with_reducible refine w_lst ?_); skip)
  | ((with_reducible refine' Exists.intro _ (And.intro ?hf (And.intro ?hl ?_))); (case hf => exact rfl); (case hl => exact Nat.le_of_ble_eq_true rfl))
  | with_reducible refine w_fld ?_
  | ((with_reducible refine' fld_of ?ho ?c ?n ?l ?_); (case ho => exact rfl); (case c => assumption); (case n => with_reducible assumption); (case l => exact rfl))
  | with_reducible refine wp_top ?_
  | with_reducible refine wp_bot ?_
  | with_reducible refine w_prop ?_
  | with_reducible refine w_meth ?_
  | with_reducible refine w_smeth ?_
  | with_reducible refine wop_addI ?_
  | with_reducible refine wop_subI ?_
  | ((with_reducible refine' wop_mulI ?c ?_); rotate_left)
  | ((with_reducible refine' wop_fdI ?c ?_); rotate_left)
  | with_reducible refine wop_mdI (by first | decide | assumption) ?_
  | ((with_reducible refine' wop_mdI ?c ?_); rotate_left)
  | ((with_reducible refine' wop_I0 ?e ?_); (case e => exact rfl))
  | ((with_reducible refine' wop_ixT ?e ?_); (case e => exact rfl))
  | ((with_reducible refine' wcb_lenL ?e ?_); (case e => exact rfl))
  | with_reducible refine wcb_lenT ?_
  | ((with_reducible refine' wop_fdX ?c ?_); rotate_left)
  | ((with_reducible refine' wun_U ?e ?_); (case e => exact rfl))
  | with_reducible refine wop_eqI ?_
  | with_reducible refine wop_neI ?_
  | with_reducible refine wop_eqS ?_
  | with_reducible refine wop_neS ?_
  | with_reducible refine wop_isN ?_
  | with_reducible refine wop_notN ?_
  | ((with_reducible refine' wop_inS ?e ?_); (case e => exact rfl))
  | ((with_reducible refine' wop_niS ?e ?_); (case e => exact rfl))
  | with_reducible refine wop_inST ?_
  | with_reducible refine wcb_gcd ?_
  | with_reducible refine wcb_abs ?_
  | with_reducible refine wcb_max2 ?_
  | with_reducible refine wcb_min2 ?_
  | with_reducible refine wcb_int ?_
  | ((with_reducible refine' wcb_isi (b := true) ?ho ?hb ?_); (case ho => exact rfl); (case hb => (dsimp only [tyN]; decide +kernel)))
  | ((with_reducible refine' wcb_isi (b := false) ?ho ?hb ?_); (case ho => exact rfl); (case hb => (dsimp only [tyN]; decide +kernel)))
  | ((with_reducible refine' wcb_listOf ?e ?_); (case e => exact rfl))
  | with_reducible refine wcb_listOfT ?_
  | ((with_reducible refine' wcb_tupOf ?e ?_); (case e => exact rfl))
  | with_reducible refine w_chain ?_
  | with_reducible refine wcb_strS ?_
  | ((with_reducible refine' wcb_lenD ?e ?_); (case e => exact rfl))
  | ((with_reducible refine' wcb_listD ?e ?_); (case e => exact rfl))
  | with_reducible refine w_dnewK ?_
  | with_reducible refine w_dget ?_
  | with_reducible refine w_din ?_
  | with_reducible refine w_dni ?_
  | with_reducible refine w_lenSet ?_
  | with_reducible refine w_listVals ?_
  | with_reducible refine w_chain ?_
  | ((with_reducible refine' wt_yes ?_)))
variable {W : Wd} {a : Ad}
theorem m_GiftK (T : Txt W.K W.mg a) : MakRK W (CXW W) 7 "Gift" a.Gift "amount" (spIX a.Gift false fun rs kx => ∃ d q, rs = [.d d] ∧ NumQ a.Ratio d q ∧ 0 < q.num ∧ Sz 4000 q.num ∧ kx a.InvalidMoves [("position", .non)]) := by
  obtain ⟨f, fd, F, M⟩ := T.d_Gift_init.ex
  obtain ⟨oc, od, dV, kV, doc, pm, an, cdv, ct, osl, rfl, lk, hcd, hD, hK⟩ := F.ex
  have hd0 : dV = .none := by
    rcases hD with ⟨_, h⟩ | ⟨h, _⟩
    · exact h
    · exact absurd rfl h
  subst hd0
  refine ⟨f, M, ?_, T.o_Gift.mg⟩
  have F2 := fnrk_of (k := 6) (p1 := "self") (x := "amount") (pv := "moves") lk hcd sc_Gift_init StX.cxUp (fun u y => rfl) (sp := spIX a.Gift false (bGift0 a.Ratio a.InvalidMoves)) (fun A outer s H vs Q E hr h => b_Gift0 T f cdv A outer s H vs Q E hr h)
  intro A outer s H u y v z Q E hr e0 r1 r2 hsp
  refine F2 A outer s H u y v z Q E hr e0 r1 r2 ?_
  refine ⟨v, z, rfl, fun p hp => ?_⟩
  have h2 : spIX a.Gift false (BStar 1 (bGift0 a.Ratio a.InvalidMoves)) [v, z] H Q E := by
    obtain ⟨π, X, H1, x, dx, ws, rs, kx, h1, h2, h3, h4, h5, h6, h7, h8, h9, ⟨d, q, rfl, b1, b2, b3, b4⟩, h10⟩ := hsp
    exact ⟨π, X, H1, x, dx, ws, _, kx, h1, h2, h3, h4, h5, h6, h7, h8, h9, ⟨[.d d], [], rfl, rfl, by decide, d, q, rfl, b1, b2, b3, b4⟩, h10⟩
  obtain ⟨ws, rest, e1, e2, _, g⟩ := star_IX h2
  match ws, e2, e1 with
  | [_, _], _, e1 =>
    obtain rfl : rest = [] := by injection e1 with a1 a2; injection a2 with a2 a3; exact a3.symm
    injection e1 with a1 a2
    injection a2 with a2 a3
    subst a1 a2
    exact g p hp
end Lw
namespace Dt
open PySem PySem.Spec PyProof.Rows L2 Ly
theorem repr_low : ∀ c : Nat, lowB c = true → ∀ q : Nat, q = 34 ∨ q = 39 → (PySem.Builtin.Str.reprChar q c).all (fun d => decide (d < 0x110000)) = true := by
  intro c hc q hq
  unfold lowB at hc
  rw [Bool.and_eq_true, decide_eq_true_eq, decide_eq_true_eq] at hc
  have k1 : ∀ i : Fin 26, (PySem.Builtin.Str.reprChar 34 (97 + i.val)).all (fun d => decide (d < 0x110000)) = true := by decide +kernel
  have k2 : ∀ i : Fin 26, (PySem.Builtin.Str.reprChar 39 (97 + i.val)).all (fun d => decide (d < 0x110000)) = true := by decide +kernel
  have e : c = 97 + (c - 97) := by omega
  rcases hq with rfl | rfl
  · rw [e]; exact k1 ⟨c - 97, by omega⟩
  · rw [e]; exact k2 ⟨c - 97, by omega⟩
theorem fold_ok (q : Nat) (hq : q = 34 ∨ q = 39) : ∀ (l : List Nat) (acc : Array Nat), (∀ c ∈ l, lowB c = true) → acc.all (fun d => decide (d < 0x110000)) = true → (l.foldl (fun out c => out ++ (PySem.Builtin.Str.reprChar q c).toArray) acc).all (fun d => decide (d < 0x110000)) = true
  | [], acc, _, h => h
  | c :: l, acc, hl, h => by
    rw [List.foldl_cons]
    refine fold_ok q hq l _ (fun c h => hl c (.tail _ h)) ?_
    rw [Array.all_append, h, Bool.true_and]
    have := repr_low c (hl c (.head _)) q hq
    rw [List.all_toArray]
    exact this
theorem repr_ok {x : Str} (h : x.cps.toList.all lowB = true) : PyData.strOk (reprText x) = true := by
  have hl : ∀ c ∈ x.cps.toList, lowB c = true := List.all_eq_true.mp h
  have hq : reprQuote x = 34 ∨ reprQuote x = 39 := by
    unfold reprQuote
    split
    · exact .inl rfl
    · exact .inr rfl
  have hq2 : decide (reprQuote x < 0x110000) = true := by rcases hq with e | e <;> rw [e] <;> decide
  unfold PyData.strOk reprText
  show ((x.cps.foldl (fun out c => out ++ (PySem.Builtin.Str.reprChar (reprQuote x) c).toArray) #[reprQuote x]).push (reprQuote x)).all (fun d => decide (d < 0x110000)) = true
  rw [Array.all_push, Bool.and_eq_true]
  refine ⟨?_, hq2⟩
  rw [← Array.foldl_toList]
  refine fold_ok _ hq _ _ hl ?_
  show (#[reprQuote x].all fun d => decide (d < 0x110000)) = true
  simp only [List.all_toArray, List.all_cons, List.all_nil, Bool.and_true]
  exact hq2
theorem repr_sz {x : Str} (h : x.cps.toList.all lowB = true) (hl : x.length ≤ 100) : (reprText x).length ≤ sizeLine := by
  have z := StrLaws.reprText_len x fun c hc => by
    have := List.all_eq_true.mp h c hc
    unfold lowB at this
    rw [Bool.and_eq_true, decide_eq_true_eq, decide_eq_true_eq] at this
    have h2 : (122 : Nat) < 16 ^ 8 := by decide
    omega
  exact sl_of (by omega)
end Dt
namespace Lw
open PySem PySem.Spec PyProof.Rows L2 Ly Dt LamX
variable {W : Wd} {a : Ad} {R M : Addr}
theorem word_low {x : Str} (h : x.cps.toList.all lowB = true) (hl : x.length ≤ 100) : Word R M (.str x) :=
  ⟨⟨.inl rfl, fun s e => by cases e; exact sl_of (by omega)⟩, _, .pl (.str (repr_sz h hl)), repr_ok h⟩
theorem word_nm {x : Str} (h : nmB x = true) : Word R M (.str x) := by
  unfold nmB at h
  rw [Bool.and_eq_true, Bool.and_eq_true, decide_eq_true_eq, decide_eq_true_eq] at h
  exact word_low h.2.2 (by omega)
theorem word_str {x : Str} (h : decide (x.length ≤ 100) = true) (h1 : decide ((reprText x).length ≤ 100000) = true) (h2 : PyData.strOk (reprText x) = true) : Word R M (.str x) :=
  ⟨⟨.inl rfl, fun s e => by cases e; exact sl_of (by have := of_decide_eq_true h; omega)⟩, _, .pl (.str (sl_of (of_decide_eq_true h1))), h2⟩
theorem tx_n : Tx R M .non := ⟨_, .pl .non, by decide +kernel⟩
theorem tx_bl (b : Bool) : Tx R M (.bl b) := ⟨_, .pl .bl, by cases b <;> decide +kernel⟩
theorem tx_int (i : Int) (h : i.natAbs.log2 < 1920) : Tx R M (.int i) := ⟨_, .pl (.int h), ok_It i⟩
theorem tx_i (n : Nat) (h : n < 4) : Tx R M (.int (n : Nat)) := tx_int _ (by
  have : n = 0 ∨ n = 1 ∨ n = 2 ∨ n = 3 := by omega
  rcases this with rfl | rfl | rfl | rfl <;> decide +kernel)
theorem tx_rat {q : Rat} (h : SzQ 1900 q) : Tx R M (ratQ R q) := ⟨_, .rat h, ok_app (ok_app (ok_app (ok_app (ok_app (by decide +kernel) (by decide +kernel)) (ok_It _)) (by decide +kernel)) (ok_It _)) (by decide +kernel)⟩
theorem tx_d0 : Tx R M (.dct []) := ⟨_, .pl .nod, by decide +kernel⟩
theorem tx_lst {ds : List D} {p : PyData} (h : Pl (.lst ds) p) (s1 : p.showable = true) (s2 : p.hasDict = false) (s3 : decide (p.depth ≤ 40) = true) (s4 : decide (p.shown.length ≤ 100000) = true) (s5 : PyData.strOk p.shown = true) : Tx R M (.lst ds) := ⟨_, .pl (.lst h s1 s2 (of_decide_eq_true s3) (sl_of (of_decide_eq_true s4))), s5⟩
theorem tx_tup {ds : List D} {p : PyData} (h : Pl (.tup ds) p) (s1 : p.showable = true) (s2 : p.hasDict = false) (s3 : decide (p.depth ≤ 40) = true) (s4 : decide (p.shown.length ≤ 100000) = true) (s5 : PyData.strOk p.shown = true) : Tx R M (.tup ds) := ⟨_, .pl (.tup h s1 s2 (of_decide_eq_true s3) (sl_of (of_decide_eq_true s4))), s5⟩
theorem txn : txOf R M .non = "None" := by
  have h := (txOf_ok (R := R) (M := M) tx_n).1
  revert h
  generalize txOf R M .non = t
  intro h
  cases h with
  | pl h => cases h; rfl
theorem word_of {x : D} (ho : isObj x = false) (hs : ∀ s, x ≠ .str s) (h : Tx R M x) : Word R M x := ⟨⟨.inl ho, fun s e => absurd e (hs s)⟩, h⟩
theorem word_rat {q : Rat} (h : SzQ 1900 q) : Word R M (ratQ R q) := ⟨⟨.inr ⟨_, rfl⟩, fun s e => by cases e⟩, tx_rat h⟩
theorem tx_lst1 : Tx R M (.lst [.str "a"]) := tx_lst (.lst (.cons .str .nil)) (by decide +kernel) (by decide +kernel) (by decide +kernel) (by decide +kernel) (by decide +kernel)
theorem tx_tup1 : Tx R M (.tup [.str "a"]) := tx_tup (.tup (.cons .str .nil)) (by decide +kernel) (by decide +kernel) (by decide +kernel) (by decide +kernel) (by decide +kernel)
theorem tx_lst2 : Tx R M (.lst [.int 1]) := tx_lst (.lst (.cons .int .nil)) (by decide +kernel) (by decide +kernel) (by decide +kernel) (by decide +kernel) (by decide +kernel)
theorem tx_tup2 : Tx R M (.tup [.int 1, .int 2]) := tx_tup (.tup (.cons .int (.cons .int .nil))) (by decide +kernel) (by decide +kernel) (by decide +kernel) (by decide +kernel) (by decide +kernel)
theorem tx_mov {x y z : Str} (h1 : nmB x = true) (h2 : nmB y = true) (h3 : nmB z = true) : Tx R M (mvT M (x, y, z)) := by
  have l : ∀ {x : Str}, nmB x = true → x.cps.toList.all lowB = true ∧ x.length ≤ 8 := fun {x} h => by
    unfold nmB at h
    rw [Bool.and_eq_true, Bool.and_eq_true, decide_eq_true_eq, decide_eq_true_eq] at h
    exact ⟨h.2.2, h.1⟩
  have z : ∀ {x : Str}, nmB x = true → (reprText x).length ≤ 1000 := fun {x} h => by
    obtain ⟨h1, h2⟩ := l h
    have z := StrLaws.reprText_len x fun c hc => by
      have := List.all_eq_true.mp h1 c hc
      unfold lowB at this
      rw [Bool.and_eq_true, decide_eq_true_eq, decide_eq_true_eq] at this
      have h2 : (122 : Nat) < 16 ^ 8 := by decide
      omega
    omega
  exact ⟨_, .mov (z h1) (z h2) (z h3), ok_app (ok_app (ok_app (ok_app (ok_app (ok_app (ok_app (by decide +kernel) (by decide +kernel)) (repr_ok (l h1).1)) (by decide +kernel)) (repr_ok (l h2).1)) (by decide +kernel)) (repr_ok (l h3).1)) (by decide +kernel)⟩
end Lw
namespace Dt
open PySem PySem.Spec PyProof.Rows L2 Ly
theorem mvl4 {K : PySem.W.Frag} {M : Addr} {ds : List D} {os : List (Option M3)} (h : MvL K M ds os) (l : os.length = 4) : ∃ d0 d1 d2 d3 o0 o1 o2 o3, ds = [d0, d1, d2, d3] ∧ os = [o0, o1, o2, o3] ∧ MvE K M d0 o0 ∧ MvE K M d1 o1 ∧ MvE K M d2 o2 ∧ MvE K M d3 o3 := by
  cases h with
  | nil => cases l
  | cons h0 h =>
    cases h with
    | nil => cases l
    | cons h1 h =>
      cases h with
      | nil => cases l
      | cons h2 h =>
        cases h with
        | nil => cases l
        | cons h3 h =>
          cases h with
          | nil => exact ⟨_, _, _, _, _, _, _, _, rfl, rfl, h0, h1, h2, h3⟩
          | cons h4 h => cases l
theorem brk1_all : ∀ {os : List (Option M3)} {vs : List Str} {l : Str} {i : Nat}, brk1 os vs l i = none → ∃ ms : List M3, os = ms.map some
  | [], _, _, _, _ => ⟨[], rfl⟩
  | none :: _, _, _, _, h => by cases h
  | some m :: os, vs, l, i, h => by
    unfold brk1 at h
    split at h
    · cases h
    · obtain ⟨ms, rfl⟩ := brk1_all h
      exact ⟨m :: ms, rfl⟩
theorem brk_all {os : List (Option M3)} (h : brk os = none) : ∃ ms : List M3, os = ms.map some := by
  cases os with
  | nil => exact ⟨[], rfl⟩
  | cons o os =>
    cases o with
    | none => cases h
    | some m => exact brk1_all h
theorem mvl_ms {K : PySem.W.Frag} {M : Addr} : ∀ {ds : List D} {ms : List M3}, MvL K M ds (ms.map some) → ds = ms.map (mvT M)
  | [], [], _ => rfl
  | [], _ :: _, h => by cases h
  | _ :: _, [], h => by cases h
  | d :: ds, m :: ms, h => by
    cases h with
    | cons h t =>
      cases h with
      | mv => rw [mvl_ms t]; rfl
end Dt
namespace Lw
open PySem PySem.Spec PyProof.Rows L2 Ly Dt LamX
local macro_rules | `(tactic| walk_at "wk") => `(tactic| first
  | ((with_reducible refine' w_var ?hv ?hn ?_); (case hv => exact rfl); (case hn => (intro z; cases z)))
  | with_reducible refine w_int ?_
  | with_reducible refine w_str ?_
  | with_reducible refine w_op ?_
  | with_reducible refine wa_cons ?_
  | with_reducible refine wa_nil ?_
  | with_reducible refine w_reprL ?_
  | with_reducible refine w_isi2 ?_
  | with_reducible refine w_cb ?_
  | with_reducible refine w_call ?_
  | ((with_reducible refine' ws_retV ?hv ?_); (case hv => exact rfl))
  | with_reducible refine ws_seq ?_
  | with_reducible refine ws_asg ?_
  | with_reducible refine ws_ret ?_
  | with_reducible refine ws_if ?_
  | with_reducible refine ws_next ?_
  | ((with_reducible refine' ws_append ?hv ?hz ?_); (case hv => exact rfl); rotate_left)
  | with_reducible refine ws_drop ?_
  | with_reducible refine ws_retN ?_
  | ((with_reducible refine wg_d ?_); dsimp only [List.set])
  | ((with_reducible refine wg_raw ?_); dsimp only [List.set])
  | ((with_reducible refine wg_E ?_))
  | ((with_reducible refine' we_tup ?hl ?_); (case hl => exact rfl))
  | with_reducible refine wes_cons ?_
  | with_reducible refine wes_nil ?_
  | ((with_reducible refine we_name ?_); dsimp only [List.set])
  | with_reducible refine out_d ?_
  | with_reducible refine out_new ?_
  | with_reducible refine ex_bl ?_
  | with_reducible refine ite_t ?_
  | ((with_reducible refine ex_fzd ?_); dsimp only [List.set, List.nil_append, List.cons_append])
  | ((with_reducible refine ex_fzn ?_); dsimp only [List.set, List.nil_append, List.cons_append])
  | with_reducible refine ite_nt ?_
  | with_reducible refine ite_nf ?_
  | with_reducible refine ite_f ?_
  | with_reducible refine wt_tb ?_
  | with_reducible refine wt_test ?_
  | with_reducible refine wt_and ?_
  | with_reducible refine wt_or ?_
  | with_reducible refine wt_not ?_
  | with_reducible refine w_andV ?_
  | with_reducible refine w_orV ?_
  | with_reducible refine w_notV ?_
  | with_reducible refine w_if ?_
  | with_reducible refine w_bl ?_
  | with_reducible refine w_non ?_
  | with_reducible refine w_ty ?_
  | with_reducible refine w_ref ?_
  | with_reducible refine w_un ?_
  | ((with_reducible refine w_tup ?_); skip)
  | ((with_reducible refine w_lst ?_); skip)
  | ((with_reducible refine' Exists.intro _ (And.intro ?hf (And.intro ?hl ?_))); (case hf => exact rfl); (case hl => exact Nat.le_of_ble_eq_true rfl))
  | with_reducible refine w_fld ?_
  | ((with_reducible refine' fld_of ?ho ?c ?n ?l ?_); (case ho => exact rfl); (case c => assumption); (case n => with_reducible assumption); (case l => exact rfl))
  | with_reducible refine wp_top ?_
  | with_reducible refine wp_bot ?_
  | with_reducible refine w_prop ?_
  | with_reducible refine w_meth ?_
  | with_reducible refine w_smeth ?_
  | with_reducible refine wop_addI ?_
  | with_reducible refine wop_subI ?_
  | ((with_reducible refine' wop_mulI ?c ?_); rotate_left)
  | ((with_reducible refine' wop_fdI ?c ?_); rotate_left)
  | with_reducible refine wop_mdI (by first | decide | assumption) ?_
  | ((with_reducible refine' wop_mdI ?c ?_); rotate_left)
  | ((with_reducible refine' wop_I0 ?e ?_); (case e => exact rfl))
  | ((with_reducible refine' wop_ixT ?e ?_); (case e => exact rfl))
  | ((with_reducible refine' wcb_lenL ?e ?_); (case e => exact rfl))
  | with_reducible refine wcb_lenT ?_
  | ((with_reducible refine' wop_fdX ?c ?_); rotate_left)
  | ((with_reducible refine' wun_U ?e ?_); (case e => exact rfl))
  | with_reducible refine wop_eqI ?_
  | with_reducible refine wop_neI ?_
  | with_reducible refine wop_eqS ?_
  | with_reducible refine wop_neS ?_
  | with_reducible refine wop_isN ?_
  | with_reducible refine wop_notN ?_
  | ((with_reducible refine' wop_inS ?e ?_); (case e => exact rfl))
  | ((with_reducible refine' wop_niS ?e ?_); (case e => exact rfl))
  | with_reducible refine wop_inST ?_
  | with_reducible refine wcb_gcd ?_
  | with_reducible refine wcb_abs ?_
  | with_reducible refine wcb_max2 ?_
  | with_reducible refine wcb_min2 ?_
  | with_reducible refine wcb_int ?_
  | ((with_reducible refine' wcb_isi (b := true) ?ho ?hb ?_); (case ho => exact rfl); (case hb => (dsimp only [tyN]; decide +kernel)))
  | ((with_reducible refine' wcb_isi (b := false) ?ho ?hb ?_); (case ho => exact rfl); (case hb => (dsimp only [tyN]; decide +kernel)))
  | ((with_reducible refine' wcb_listOf ?e ?_); (case e => exact rfl))
  | with_reducible refine wcb_listOfT ?_
  | ((with_reducible refine' wcb_tupOf ?e ?_); (case e => exact rfl))
  | with_reducible refine w_chain ?_
  | with_reducible refine wcb_strS ?_
  | ((with_reducible refine' wcb_lenD ?e ?_); (case e => exact rfl))
  | ((with_reducible refine' wcb_listD ?e ?_); (case e => exact rfl))
  | with_reducible refine w_dnewK ?_
  | with_reducible refine w_dget ?_
  | with_reducible refine w_din ?_
  | with_reducible refine w_dni ?_
  | with_reducible refine w_lenSet ?_
  | with_reducible refine w_listVals ?_
  | with_reducible refine w_chain ?_
  | ((with_reducible refine' wt_yes ?_)))
variable {W : Wd} {a : Ad}
/-- where a row of moves breaks off -/
def oPos (a : Ad) (n : Nat) : Oc := .err a.InvalidMoves "position" "moves" (.int (n : Nat))
def oNon (a : Ad) : Oc := .err a.InvalidMoves "position" "moves" .non
/-- a gift of the first j of a row that breaks off at n -/
def oLt (a : Ad) (n j : Nat) : Oc := if n < j then oPos a n else .ok
theorem gift_mk {d : D} {q : Rat} {ds : List D} {os : List (Option M3)} {n j : Nat} (nq : NumQ a.Ratio d q) (h0 : 0 < q.num) (hz : Sz 4000 q.num) (hm : MvL W.K a.Move ds os) (hne : ds ≠ []) (hl : ds.length ≤ 1000) (hb : brk os = if n < j then some n else none) :
    BStar 1 (bGift a.Gift a.Ratio a.Move) (.d d :: ds.map Rv.d) (fun _ => oLt a n j = .ok) ∨ BStar 1 (bGiftA W.K a.Ratio a.Move a.InvalidNumber a.InvalidMoves) (.d d :: ds.map Rv.d) (kxO (oLt a n j)) := by
  unfold oLt
  by_cases h : n < j
  · rw [if_pos h] at hb
    rw [if_pos h]
    exact .inr ⟨[.d d], ds, rfl, rfl, by omega, .inr (.inr ⟨d, q, ds, os, n, rfl, nq, h0, hz, hm, hne, hl, hb, rfl, rfl⟩)⟩
  · rw [if_neg h] at hb
    rw [if_neg h]
    obtain ⟨ms, rfl⟩ := brk_all hb
    obtain rfl := mvl_ms hm
    exact .inl ⟨[.d d], ms.map (mvT a.Move), rfl, rfl, by omega, d, q, ms, rfl, nq, h0, hz, (fun z => hne (by rw [z]; rfl)), by rw [List.length_map] at hl; exact hl, hb, rfl⟩
theorem oLt_ok {n j : Nat} (h : OcOk a (oPos a n)) : OcOk a (oLt a n j) := by
  unfold oLt
  split
  · exact h
  · exact .ok
theorem k_law_gift_right (T : Txt W.K W.mg a) (TB1 : TabB W.base W.mg a.c_law_move_right a.t_law_move_right) (TB2 : TabB W.base W.mg a.c_law_single_right a.t_law_single_right) (TB3 : TabB W.base W.mg a.c_law_gift_right a.t_law_gift_right) : ClG W 15 "_law_gift_right" (spT (tbR a) true fun rs k => ∃ x, rs = [.pot, .d x] ∧ AmtX a.Ratio a.Move x ∧ Tx a.Ratio a.Move x ∧ k (.d (.bl true))) := by
  refine clg_TC T.dc_law_gift_right sc_law_gift_right bd_law_gift_right (fun rs k ⟨_, h, _⟩ => by rw [h]; rfl) (body_TC (n := 2) (m := 5) rfl (fun rs k ⟨_, h, _⟩ => by rw [h]; rfl) fun f A outer s H E hr hgd => ⟨_, (pss_cons (ps_asg (pe_cl (k_law_broken T) hr (by decide) rfl (pa_cons (pv 0) pa_nil)) (pg_tupK (K := W.K) (n := 2) rfl rfl (pgs_cons (pg_name (i := 5) sc_law_gift_right.nd rfl (Or.inr rfl)) (pgs_cons (pg_name (i := 6) sc_law_gift_right.nd rfl (Or.inl rfl)) pgs_nil)))) (pss_cons (ps_set (i := 2) sc_law_gift_right.nd rfl (Or.inl rfl) (pe_lst (pa_cons pe_str (pa_cons (pe_callB (r := rRepX W.K a.Ratio a.Move) (call_repX T (L2H.roomH_of hr) (by decide) hgd) (by rfl) T.b_repr (by decide +kernel) (pa_cons (pv 6) pa_nil)) (pa_cons pe_bl pa_nil))))) (pss_cons (ps_if (pt_cmpR (r := rNeU W.K) (op_neU hr.units) (pe_told (k := 9) T.d_law_met sc_law_met bd_law_met rfl (.inl rfl) (fun g_ cdg_ q_ => told_gives T (hr.mono (by decide)) hgd) (by rfl) TB3 rfl hr (by decide) (lamS_by (show lamSB (defScope s_law_gift_right) _ = true by decide +kernel)) rfl (fun _ _ _ _ _ => rfl) (fun A_ o_ s_ H_ E_ f_ c_ hr => (pe_mkRx (m_GiftU T) (takes_of rfl rfl rfl rfl) (fun _ _ _ _ h => h) hr (by decide) rfl (pa_cons pe_int (pa_cons (pe_ix (r := rIx W.K) ix_U (pv 5) pe_int (fun _ _ => rfl)) (pa_cons (pe_ix (r := rIx W.K) ix_U (pv 5) pe_int (fun _ _ => rfl)) (pa_cons (pe_ix (r := rIx W.K) ix_U (pv 5) pe_int (fun _ _ => rfl)) (pa_cons (pe_ix (r := rIx W.K) ix_U (pv 5) pe_int (fun _ _ => rfl)) pa_nil)))))))) (pv 2) (nomark _)) (pss_one (ps_ret pe_bl)) pss_nil) (pss_cons (ps_if (pt_cmpR (r := rNeU W.K) (op_neU hr.units) (pe_told (k := 9) T.d_law_met sc_law_met bd_law_met rfl (.inl rfl) (fun g_ cdg_ q_ => told_gives T (hr.mono (by decide)) hgd) (by rfl) TB3 rfl hr (by decide) (lamS_by (show lamSB (defScope s_law_gift_right) _ = true by decide +kernel)) rfl (fun _ _ _ _ _ => rfl) (fun A_ o_ s_ H_ E_ f_ c_ hr => (pe_mkRx (m_GiftU T) (takes_of rfl rfl rfl rfl) (fun _ _ _ _ h => h) hr (by decide) rfl (pa_cons (pv 1) (pa_cons (pe_ix (r := rIx W.K) ix_U (pv 5) pe_int (fun _ _ => rfl)) (pa_cons (pe_ix (r := rIx W.K) ix_U (pv 5) pe_int (fun _ _ => rfl)) (pa_cons (pe_ix (r := rIx W.K) ix_U (pv 5) pe_int (fun _ _ => rfl)) (pa_cons (pe_ix (r := rIx W.K) ix_U (pv 5) pe_int (fun _ _ => rfl)) pa_nil)))))))) (pe_lst (pa_cons pe_str (pa_cons (pe_callB (r := rRepX W.K a.Ratio a.Move) (call_repX T (L2H.roomH_of hr) (by decide) hgd) (by rfl) T.b_repr (by decide +kernel) (pa_cons (pv 1) pa_nil)) (pa_cons pe_bl pa_nil)))) (nomark _)) (pss_one (ps_ret pe_bl)) pss_nil) (pss_cons (ps_set (i := 3) sc_law_gift_right.nd rfl (Or.inl rfl) (pe_lst (pa_cons (pe_told (k := 9) T.d_law_met sc_law_met bd_law_met rfl (.inl rfl) (fun g_ cdg_ q_ => told_gives T (hr.mono (by decide)) hgd) (by rfl) TB3 rfl hr (by decide) (lamS_by (show lamSB (defScope s_law_gift_right) _ = true by decide +kernel)) rfl (fun _ _ _ _ _ => rfl) (fun A_ o_ s_ H_ E_ f_ c_ hr => (pe_mkRx (m_GiftU T) (takes_of rfl rfl rfl rfl) (fun _ _ _ _ h => h) hr (by decide) rfl (pa_cons (pe_mak (m_Ratio2 T) hr (by decide) rfl (pa_cons pe_int (pa_cons pe_int pa_nil))) (pa_cons (pe_ix (r := rIx W.K) ix_U (pv 5) pe_int (fun _ _ => rfl)) (pa_cons (pe_ix (r := rIx W.K) ix_U (pv 5) pe_int (fun _ _ => rfl)) pa_nil)))))) pa_nil))) (pss_cons (ps_expr (pe_bmK (K := W.K) rfl PySem.F.plainAttrs_list PySem.F.slot_list_append PySem.F.type_list_append mt_append (pv 3) (pa_cons (pe_told (k := 9) T.d_law_met sc_law_met bd_law_met rfl (.inl rfl) (fun g_ cdg_ q_ => told_gives T (hr.mono (by decide)) hgd) (by rfl) TB3 rfl hr (by decide) (lamS_by (show lamSB (defScope s_law_gift_right) _ = true by decide +kernel)) rfl (fun _ _ _ _ _ => rfl) (fun A_ o_ s_ H_ E_ f_ c_ hr => (pe_mkRx (m_GiftU T) (takes_of rfl rfl rfl rfl) (fun _ _ _ _ h => h) hr (by decide) rfl (pa_cons pe_int (pa_cons (pe_ix (r := rIx W.K) ix_U (pv 5) pe_int (fun _ _ => rfl)) pa_nil))))) pa_nil))) (pss_cons (ps_if (pt_cmpR (r := rNeU W.K) (op_neU hr.units) (pv 3) (pe_lst (pa_cons (pe_ifExp (pt_cmpR op_lt (pv 6) pe_int (nomark _)) (pv 2) (pe_lst (pa_cons pe_str pa_nil))) (pa_cons (pe_ifExp (pt_cmpR op_lt (pv 6) pe_int (nomark _)) (pv 2) (pe_lst (pa_cons pe_str pa_nil))) pa_nil))) (nomark _)) (pss_one (ps_ret pe_bl)) pss_nil) (pss_cons (ps_set (i := 4) sc_law_gift_right.nd rfl (Or.inl rfl) (pe_lst (pa_cons (pe_told (k := 9) T.d_law_met sc_law_met bd_law_met rfl (.inl rfl) (fun g_ cdg_ q_ => told_gives T (hr.mono (by decide)) hgd) (by rfl) TB3 rfl hr (by decide) (lamS_by (show lamSB (defScope s_law_gift_right) _ = true by decide +kernel)) rfl (fun _ _ _ _ _ => rfl) (fun A_ o_ s_ H_ E_ f_ c_ hr => (pe_mkRK (m_GiftK T) (takes_of rfl rfl rfl rfl) (fun _ _ _ _ h => h) hr (by decide) (by rfl) (pk_cons pe_int pk_nil)))) pa_nil))) (pss_cons (ps_expr (pe_bmK (K := W.K) rfl PySem.F.plainAttrs_list PySem.F.slot_list_append PySem.F.type_list_append mt_append (pv 4) (pa_cons (pe_told (k := 9) T.d_law_met sc_law_met bd_law_met rfl (.inl rfl) (fun g_ cdg_ q_ => told_gives T (hr.mono (by decide)) hgd) (by rfl) TB3 rfl hr (by decide) (lamS_by (show lamSB (defScope s_law_gift_right) _ = true by decide +kernel)) rfl (fun _ _ _ _ _ => rfl) (fun A_ o_ s_ H_ E_ f_ c_ hr => (pe_mkRx (m_GiftU T) (takes_of rfl rfl rfl rfl) (fun _ _ _ _ h => h) hr (by decide) rfl (pa_cons (pv 1) pa_nil)))) pa_nil))) (pss_one (ps_ret (pe_cmpR (r := rEqU W.K) (op_eqU hr.units) (pv 4) (pe_lst (pa_cons (pe_lst (pa_cons pe_str (pa_cons pe_str (pa_cons pe_bl pa_nil)))) (pa_cons (pe_lst (pa_cons pe_str (pa_cons (pe_callB (r := rRepX W.K a.Ratio a.Move) (call_repX T (L2H.roomH_of hr) (by decide) hgd) (by rfl) T.b_repr (by decide +kernel) (pa_cons (pv 1) pa_nil)) (pa_cons pe_bl pa_nil)))) pa_nil))) (nomark _))))))))))))), fun π rs kr hp hT hB => ?_⟩)
  obtain ⟨x, rfl, hx, tx, q⟩ := hB
  dsimp only [uns, List.replicate, List.cons_append, List.nil_append]
  repeat walk_at "wk"
  refine wcb_W hp (rs := [.pot]) rfl ⟨rfl, fun ds n hn hb => ?_⟩
  obtain ⟨os, hm, l4, b4, b2, b1⟩ := hb.ex
  have ti : Tx a.Ratio a.Move (.int (n : Nat)) := tx_i n hn
  have tn : Tx a.Ratio a.Move .non := tx_n
  have oP : OcOk a (oPos a n) := .mov ti
  have oN : OcOk a (oNm a x) := .num tx
  have hm0 := hm
  have le4 : ∀ {w x y z : D}, [w, x, y, z].length ≤ 4000 := fun {w x y z} => by show 4 ≤ 4000; decide
  have le4' : ∀ {w x y z : D}, [w, x, y, z].length ≤ 1000 := fun {w x y z} => by show 4 ≤ 1000; decide
  obtain ⟨d0, d1, d2, d3, o0, o1, o2, o3, rfl, rfl, m0, m1, m2, m3⟩ := mvl4 hm l4
  repeat walk_at "wk"
  refine wcb_repX (txOf_ok ti).1 ?_
  repeat walk_at "wk"
  refine wg_new fun p1 => ?_
  dsimp only [List.set]
  refine ws_frz (n := 2) rfl ?_
  dsimp only [List.set]
  repeat walk_at "wk"
  refine w_toldO (o := oPos a n) (tbR_3 T hT) rfl oP (fun E => wx_makeU ?_) ?_
  · repeat first | walk_at "wk" | refine wop_ixL rfl rfl ?_
    exact ⟨_, rfl, rfl, .inr ⟨[.d (.int 2)], [d0, d1, d2, d3], rfl, rfl, le4, .inr (.inr ⟨_, _, _, _, n, rfl, NumQ.int 2, by decide, sz_lit (by decide +kernel), hm0, (fun z => by cases z), le4', b4, rfl, rfl⟩)⟩⟩
  repeat walk_at "wk"
  refine wop_neO1 (a := a) (o := oPos a n) rfl rfl oP ?_
  repeat walk_at "wk"
  refine w_toldO (o := oNm a x) (tbR_3 T hT) rfl oN (fun E => wx_makeU ?_) ?_
  · repeat first | walk_at "wk" | refine wop_ixL rfl rfl ?_
    exact ⟨_, rfl, rfl, .inr ⟨[.d x], [d0, d1, d2, d3], rfl, rfl, le4, .inl ⟨x, _, rfl, hx, rfl, rfl⟩⟩⟩
  repeat walk_at "wk"
  refine wcb_repX (txOf_ok tx).1 ?_
  repeat walk_at "wk"
  refine wop_neO1 (a := a) (o := oNm a x) rfl rfl oN ?_
  repeat walk_at "wk"
  refine w_toldO (o := oLt a n 2) (tbR_3 T hT) rfl (oLt_ok oP) (fun E => wx_makeU ?_) ?_
  · repeat walk_at "wk"
    refine w_ratio2 ?_
    repeat walk_at "wk"
    refine ⟨5, 3, rfl, by decide, sz_mono (n := 4000) (sz_lit (by decide)) (by decide), sz_mono (n := 4000) (sz_lit (by decide)) (by decide), ?_⟩
    repeat first | walk_at "wk" | refine wop_ixL rfl rfl ?_
    exact ⟨_, rfl, rfl, gift_mk (d := ratQ a.Ratio (Rat.divInt 5 3)) (ds := [d0, d1]) (n := n) (j := 2) (NumQ.rat _) (by decide +kernel) (sz_lit (by decide +kernel)) (.cons m0 (.cons m1 .nil)) (fun z => by cases z) (by show 2 ≤ 1000; decide) b2⟩
  repeat walk_at "wk"
  refine wg_new fun p2 => ?_
  dsimp only [List.set]
  repeat walk_at "wk"
  case hz => exact (by show 1 < 4000; decide)
  refine w_toldO (o := oLt a n 1) (tbR_3 T hT) rfl (oLt_ok oP) (fun E => wx_makeU ?_) ?_
  · repeat first | walk_at "wk" | refine wop_ixL rfl rfl ?_
    exact ⟨_, rfl, rfl, gift_mk (d := .int 1) (ds := [d0]) (n := n) (j := 1) (NumQ.int 1) (by decide) (sz_lit (by decide +kernel)) (.cons m0 .nil) (fun z => by cases z) (by show 1 ≤ 1000; decide) b1⟩
  repeat walk_at "wk"
  have ots : ∀ o ∈ [oLt a n 2, oLt a n 1], OcOk a o := fun o ho => by
    simp only [List.mem_cons, List.not_mem_nil, or_false] at ho
    rcases ho with rfl | rfl <;> exact oLt_ok oP
  have otb : ∀ o ∈ [oNon a, oNm a x], OcOk a o := fun o ho => by
    simp only [List.mem_cons, List.not_mem_nil, or_false] at ho
    rcases ho with rfl | rfl
    · exact .mov tn
    · exact oN
  have nonT : (txOf a.Ratio a.Move .non) = "None" := txn
  have h3 : n < 1 ∨ n = 1 ∨ 2 ≤ n := by omega
  rcases h3 with h3 | h3 | h3
  · rw [decide_eq_true (show (n : Int) < 2 by omega), if_pos rfl]
    repeat walk_at "wk"
    rw [decide_eq_true (show (n : Int) < 1 by omega), if_pos rfl]
    repeat walk_at "wk"
    refine wop_neT (a := a) (os := [oLt a n 2, oLt a n 1]) rfl (by unfold oLt; rw [if_pos (by omega), if_pos (by omega)]; rfl) ots ?_
    repeat walk_at "wk"
    refine w_toldO (o := oNon a) (tbR_3 T hT) rfl (.mov tn) (fun E => wx_makK1X ?_) ?_
    · repeat walk_at "wk"
      exact ⟨rfl, _, rfl, rfl, _, _, rfl, NumQ.int 7, by decide, sz_lit (by decide +kernel), rfl, rfl⟩
    repeat walk_at "wk"
    refine wg_new fun p3 => ?_
    dsimp only [List.set]
    repeat walk_at "wk"
    case hz => exact (by show 1 < 4000; decide)
    refine w_toldO (o := oNm a x) (tbR_3 T hT) rfl oN (fun E => wx_makeU ?_) ?_
    · repeat walk_at "wk"
      exact ⟨_, rfl, rfl, .inr ⟨[.d x], [], rfl, rfl, by decide, .inl ⟨x, _, rfl, hx, rfl, rfl⟩⟩⟩
    repeat walk_at "wk"
    refine wcb_repX (txOf_ok tx).1 ?_
    repeat walk_at "wk"
    exact wop_eqT (a := a) (os := [oNon a, oNm a x]) rfl (by rw [← nonT]; rfl) otb (out_d q)
  · rw [decide_eq_true (show (n : Int) < 2 by omega), if_pos rfl]
    repeat walk_at "wk"
    rw [decide_eq_false (show ¬ (n : Int) < 1 by omega), if_neg (by decide)]
    repeat walk_at "wk"
    refine wop_neT (a := a) (os := [oLt a n 2, oLt a n 1]) rfl (by unfold oLt; rw [if_pos (by omega), if_neg (by omega)]; rfl) ots ?_
    repeat walk_at "wk"
    refine w_toldO (o := oNon a) (tbR_3 T hT) rfl (.mov tn) (fun E => wx_makK1X ?_) ?_
    · repeat walk_at "wk"
      exact ⟨rfl, _, rfl, rfl, _, _, rfl, NumQ.int 7, by decide, sz_lit (by decide +kernel), rfl, rfl⟩
    repeat walk_at "wk"
    refine wg_new fun p3 => ?_
    dsimp only [List.set]
    repeat walk_at "wk"
    case hz => exact (by show 1 < 4000; decide)
    refine w_toldO (o := oNm a x) (tbR_3 T hT) rfl oN (fun E => wx_makeU ?_) ?_
    · repeat walk_at "wk"
      exact ⟨_, rfl, rfl, .inr ⟨[.d x], [], rfl, rfl, by decide, .inl ⟨x, _, rfl, hx, rfl, rfl⟩⟩⟩
    repeat walk_at "wk"
    refine wcb_repX (txOf_ok tx).1 ?_
    repeat walk_at "wk"
    exact wop_eqT (a := a) (os := [oNon a, oNm a x]) rfl (by rw [← nonT]; rfl) otb (out_d q)
  · rw [decide_eq_false (show ¬ (n : Int) < 2 by omega), if_neg (by decide)]
    repeat walk_at "wk"
    rw [decide_eq_false (show ¬ (n : Int) < 1 by omega), if_neg (by decide)]
    repeat walk_at "wk"
    refine wop_neT (a := a) (os := [oLt a n 2, oLt a n 1]) rfl (by unfold oLt; rw [if_neg (by omega), if_neg (by omega)]; rfl) ots ?_
    repeat walk_at "wk"
    refine w_toldO (o := oNon a) (tbR_3 T hT) rfl (.mov tn) (fun E => wx_makK1X ?_) ?_
    · repeat walk_at "wk"
      exact ⟨rfl, _, rfl, rfl, _, _, rfl, NumQ.int 7, by decide, sz_lit (by decide +kernel), rfl, rfl⟩
    repeat walk_at "wk"
    refine wg_new fun p3 => ?_
    dsimp only [List.set]
    repeat walk_at "wk"
    case hz => exact (by show 1 < 4000; decide)
    refine w_toldO (o := oNm a x) (tbR_3 T hT) rfl oN (fun E => wx_makeU ?_) ?_
    · repeat walk_at "wk"
      exact ⟨_, rfl, rfl, .inr ⟨[.d x], [], rfl, rfl, by decide, .inl ⟨x, _, rfl, hx, rfl, rfl⟩⟩⟩
    repeat walk_at "wk"
    refine wcb_repX (txOf_ok tx).1 ?_
    repeat walk_at "wk"
    exact wop_eqT (a := a) (os := [oNon a, oNm a x]) rfl (by rw [← nonT]; rfl) otb (out_d q)
end Lw
namespace Dt
open PySem PySem.Spec PyProof.Rows L2 Ly
theorem wop_pow {π : Po} {k : Rv → Prop} {i j : Int} (c : CPow i j) (q : k (.d (.int (i ^ j.toNat)))) : WOp π (rI CPow fun i j => V.int (i ^ j.toNat)) (.d (.int i)) (.d (.int j)) k := fun X H0 H x y Q o0 o k0 ra rb h => by
  cases ra; cases rb
  exact i_I c (h _ (.d (.int (i ^ j.toNat))) H o.kp (At.int _) q)
theorem sz100 {n : Nat} {x : Int} (h : decide (x.natAbs < 2 ^ 100) = true) (k : 100 ≤ n) : Sz n x := by
  have h2 : x.natAbs < 2 ^ 100 := of_decide_eq_true h
  exact sz_mono (n := 100) h2 k
theorem lets_of : ∀ {xs : List D}, (∀ x ∈ xs, ∃ c, lowB c = true ∧ x = .str ⟨#[c]⟩) → ∃ cs : List Nat, xs = cs.map (fun c => D.str ⟨#[c]⟩) ∧ cs.all lowB = true
  | [], _ => ⟨[], rfl, rfl⟩
  | x :: xs, h => by
    obtain ⟨c, hc, rfl⟩ := h x (.head _)
    obtain ⟨cs, rfl, h2⟩ := lets_of fun x hx => h x (.tail _ hx)
    exact ⟨c :: cs, rfl, by rw [List.all_cons, hc, h2]; rfl⟩
end Dt
namespace Lw
open PySem PySem.Spec PyProof.Rows L2 Ly Dt LamX
local macro_rules | `(tactic| walk_at "wk") => `(tactic| first
  | ((with_reducible refine' w_var ?hv ?hn ?_); (case hv => exact rfl); (case hn => (intro z; cases z)))
  | with_reducible refine w_int ?_
  | with_reducible refine w_str ?_
  | with_reducible refine w_op ?_
  | with_reducible refine wa_cons ?_
  | with_reducible refine wa_nil ?_
  | with_reducible refine w_reprL ?_
  | with_reducible refine w_isi2 ?_
  | with_reducible refine w_cb ?_
  | with_reducible refine w_call ?_
  | ((with_reducible refine' ws_retV ?hv ?_); (case hv => exact rfl))
  | with_reducible refine ws_seq ?_
  | with_reducible refine ws_asg ?_
  | with_reducible refine ws_ret ?_
  | with_reducible refine ws_if ?_
  | with_reducible refine ws_next ?_
  | ((with_reducible refine' ws_append ?hv ?hz ?_); (case hv => exact rfl); rotate_left)
  | with_reducible refine ws_drop ?_
  | with_reducible refine ws_retN ?_
  | ((with_reducible refine wg_d ?_); dsimp only [List.set])
  | ((with_reducible refine wg_raw ?_); dsimp only [List.set])
  | ((with_reducible refine wg_E ?_))
  | ((with_reducible refine' we_tup ?hl ?_); (case hl => exact rfl))
  | with_reducible refine wes_cons ?_
  | with_reducible refine wes_nil ?_
  | ((with_reducible refine we_name ?_); dsimp only [List.set])
  | with_reducible refine out_d ?_
  | with_reducible refine out_new ?_
  | with_reducible refine ex_bl ?_
  | with_reducible refine ite_t ?_
  | ((with_reducible refine ex_fzd ?_); dsimp only [List.set, List.nil_append, List.cons_append])
  | ((with_reducible refine ex_fzn ?_); dsimp only [List.set, List.nil_append, List.cons_append])
  | with_reducible refine ite_nt ?_
  | with_reducible refine ite_nf ?_
  | with_reducible refine ite_f ?_
  | with_reducible refine wt_tb ?_
  | with_reducible refine wt_test ?_
  | with_reducible refine wt_and ?_
  | with_reducible refine wt_or ?_
  | with_reducible refine wt_not ?_
  | with_reducible refine w_andV ?_
  | with_reducible refine w_orV ?_
  | with_reducible refine w_notV ?_
  | with_reducible refine w_if ?_
  | with_reducible refine w_bl ?_
  | with_reducible refine w_non ?_
  | with_reducible refine w_ty ?_
  | with_reducible refine w_ref ?_
  | with_reducible refine w_un ?_
  | ((with_reducible refine w_tup ?_); skip)
  | ((with_reducible refine w_lst ?_); skip)
  | ((with_reducible refine' Exists.intro _ (And.intro ?hf (And.intro ?hl ?_))); (case hf => exact rfl); (case hl => exact Nat.le_of_ble_eq_true rfl))
  | with_reducible refine w_fld ?_
  | ((with_reducible refine' fld_of ?ho ?c ?n ?l ?_); (case ho => exact rfl); (case c => assumption); (case n => with_reducible assumption); (case l => exact rfl))
  | with_reducible refine wp_top ?_
  | with_reducible refine wp_bot ?_
  | with_reducible refine w_prop ?_
  | with_reducible refine w_meth ?_
  | with_reducible refine w_smeth ?_
  | with_reducible refine wop_addI ?_
  | with_reducible refine wop_subI ?_
  | ((with_reducible refine' wop_mulI ?c ?_); rotate_left)
  | ((with_reducible refine' wop_fdI ?c ?_); rotate_left)
  | with_reducible refine wop_mdI (by first | decide | assumption) ?_
  | ((with_reducible refine' wop_mdI ?c ?_); rotate_left)
  | ((with_reducible refine' wop_I0 ?e ?_); (case e => exact rfl))
  | ((with_reducible refine' wop_ixT ?e ?_); (case e => exact rfl))
  | ((with_reducible refine' wcb_lenL ?e ?_); (case e => exact rfl))
  | with_reducible refine wcb_lenT ?_
  | ((with_reducible refine' wop_fdX ?c ?_); rotate_left)
  | ((with_reducible refine' wun_U ?e ?_); (case e => exact rfl))
  | with_reducible refine wop_eqI ?_
  | with_reducible refine wop_neI ?_
  | with_reducible refine wop_eqS ?_
  | with_reducible refine wop_neS ?_
  | with_reducible refine wop_isN ?_
  | with_reducible refine wop_notN ?_
  | ((with_reducible refine' wop_inS ?e ?_); (case e => exact rfl))
  | ((with_reducible refine' wop_niS ?e ?_); (case e => exact rfl))
  | with_reducible refine wop_inST ?_
  | with_reducible refine wcb_gcd ?_
  | with_reducible refine wcb_abs ?_
  | with_reducible refine wcb_max2 ?_
  | with_reducible refine wcb_min2 ?_
  | with_reducible refine wcb_int ?_
  | ((with_reducible refine' wcb_isi (b := true) ?ho ?hb ?_); (case ho => exact rfl); (case hb => (dsimp only [tyN]; decide +kernel)))
  | ((with_reducible refine' wcb_isi (b := false) ?ho ?hb ?_); (case ho => exact rfl); (case hb => (dsimp only [tyN]; decide +kernel)))
  | ((with_reducible refine' wcb_listOf ?e ?_); (case e => exact rfl))
  | with_reducible refine wcb_listOfT ?_
  | ((with_reducible refine' wcb_tupOf ?e ?_); (case e => exact rfl))
  | with_reducible refine w_chain ?_
  | with_reducible refine wcb_strS ?_
  | ((with_reducible refine' wcb_lenD ?e ?_); (case e => exact rfl))
  | ((with_reducible refine' wcb_listD ?e ?_); (case e => exact rfl))
  | with_reducible refine w_dnewK ?_
  | with_reducible refine w_dget ?_
  | with_reducible refine w_din ?_
  | with_reducible refine w_dni ?_
  | with_reducible refine w_lenSet ?_
  | with_reducible refine w_listVals ?_
  | with_reducible refine w_chain ?_
  | ((with_reducible refine' wt_yes ?_)))
variable {W : Wd} {a : Ad}
theorem k_law_odd_name (T : Txt W.K W.mg a) : Cl W 6 "_law_odd_name" (spW true fun rs k => rs = [.pot] ∧ ∀ x, Word a.Ratio a.Move x → k (.d x)) := by
  refine cl_W T.d_law_odd_name sc_law_odd_name bd_law_odd_name (fun rs k ⟨h, _⟩ => by rw [h]; rfl) (body_W (n := 1) (m := 3) rfl (fun rs k ⟨h, _⟩ => by rw [h]; rfl) fun f cdv A outer s H E hr => ⟨_, (pss_cons (ps_set (i := 1) sc_law_odd_name.nd rfl (Or.inl rfl) (pe_joinK (K := W.K) rfl pe_str (pe_lc (own := [("_law_turn", 3)]) (g := (gName 3)) (tt := tYes) rfl sc_law_odd_name.nd (pi_range1 rfl T.b_range (pa_cons pe_int pa_nil)) (blkOk_by (N := N_law_odd_name) (sc := defScope s_law_odd_name) (by decide +kernel)) (fun _ _ _ _ _ => (pg_name (i := 3) sc_law_odd_name.nd rfl (Or.inl rfl))) (fun _ _ _ _ _ => pts_nil) (fun _ _ _ _ _ => (pe_cl (k_law_pick T) hr (by decide) rfl (pa_cons (pv 0) (pa_cons (pe_lst (pa_cons pe_str (pa_cons pe_str (pa_cons pe_str pa_nil)))) pa_nil))))))) (pss_cons (ps_set (i := 2) sc_law_odd_name.nd rfl (Or.inl rfl) (pe_lst (pa_cons pe_str (pa_cons pe_str (pa_cons pe_str (pa_cons pe_str (pa_cons pe_str (pa_cons pe_str (pa_cons (pv 1) (pa_cons pe_str (pa_cons pe_non (pa_cons pe_bl (pa_cons pe_int (pa_cons pe_int (pa_cons (pe_lst (pa_cons pe_str pa_nil)) (pa_cons (pe_tup (pa_cons pe_str pa_nil)) (pa_cons pe_dnewK (pa_cons (pe_mak (m_Ratio1 T) hr (by decide) rfl (pa_cons pe_int pa_nil)) pa_nil)))))))))))))))))) (pss_one (ps_ret (pe_cl (k_law_pick T) hr (by decide) rfl (pa_cons (pv 0) (pa_cons (pv 2) pa_nil))))))), fun π rs kr hp hB => ?_⟩)
  obtain ⟨rfl, q⟩ := hB
  dsimp only [uns, List.replicate, List.cons_append, List.nil_append]
  repeat walk_at "wk"
  refine w_join (ss := []) (s := "") ?_
  repeat walk_at "wk"
  refine ⟨rfl, ?_⟩
  refine w_lc1 (j := 3) (by decide) (fun _ _ x => ∃ c, lowB c = true ∧ x = .str ⟨#[c]⟩) (wi_rng1 ?_)
  repeat walk_at "wk"
  refine ⟨9, rfl, by decide, by decide, by rw [rng_len]; decide, fun i d hd => ?_, fun xs lx hx => ?_⟩
  · dsimp only [List.map, wipeD, List.set]
    repeat walk_at "wk"
    refine wcb_pick hp rfl (by simp) (by show 3 ≤ 4000; decide) fun d hd => ?_
    simp only [List.mem_cons, List.not_mem_nil, or_false] at hd
    rcases hd with rfl | rfl | rfl
    · exact ⟨_, rfl, 97, by decide, rfl⟩
    · exact ⟨_, rfl, 98, by decide, rfl⟩
    · exact ⟨_, rfl, 122, by decide, rfl⟩
  rw [rng_len] at lx
  obtain ⟨cs, rfl, hc⟩ := lets_of (xs := xs) fun x hx' => by
    obtain ⟨i, hi, rfl⟩ := List.mem_iff_getElem.mp hx'
    exact hx i _ _ (rng_get (by rw [lx] at hi; exact hi)) (List.getElem?_eq_getElem hi)
  rw [List.length_map] at lx
  have lx : cs.length = 9 := lx
  have hxx : True := trivial
  clear hx
  have hw : Word a.Ratio a.Move (.str (Txt.join ("" : Str) (cs.map fun c => (⟨#[c]⟩ : Str)))) := word_low (by rw [join_lets]; exact hc) (by
    show (Txt.join ("" : Str) (cs.map fun c => (⟨#[c]⟩ : Str))).cps.size ≤ 100
    rw [← Array.length_toList, join_lets, lx]
    decide)
  refine ⟨cs.map fun c => (⟨#[c]⟩ : Str), by rw [List.map_map]; rfl, ?_, ?_⟩
  · rw [List.length_map, lx, List.map_map]
    have : ∀ cs : List Nat, (cs.map ((fun x : Str => x.length) ∘ fun c => (⟨#[c]⟩ : Str))).sum = cs.length := fun cs => by
      induction cs with
      | nil => rfl
      | cons c cs ih => rw [List.map_cons, List.sum_cons, ih, List.length_cons]; show 1 + _ = _; omega
    rw [this cs, lx]
    decide
  generalize Txt.join ("" : Str) (cs.map fun c => (⟨#[c]⟩ : Str)) = w at hw ⊢
  repeat walk_at "wk"
  refine w_ratio1 ?_
  repeat walk_at "wk"
  refine wg_new fun p1 => ?_
  dsimp only [List.set]
  refine ws_frz (n := 2) rfl ?_
  dsimp only [List.set]
  repeat walk_at "wk"
  refine wcb_pick hp rfl (by simp) (by show 16 ≤ 4000; decide) fun d hd => out_d (q d ?_)
  simp only [List.mem_cons, List.not_mem_nil, or_false] at hd
  rcases hd with rfl | rfl | rfl | rfl | rfl | rfl | rfl | rfl | rfl | rfl | rfl | rfl | rfl | rfl | rfl | rfl
  · exact word_str (by decide +kernel) (by decide +kernel) (by decide +kernel)
  · exact word_str (by decide +kernel) (by decide +kernel) (by decide +kernel)
  · exact word_str (by decide +kernel) (by decide +kernel) (by decide +kernel)
  · exact word_str (by decide +kernel) (by decide +kernel) (by decide +kernel)
  · exact word_str (by decide +kernel) (by decide +kernel) (by decide +kernel)
  · exact word_str (by decide +kernel) (by decide +kernel) (by decide +kernel)
  · exact hw
  · exact word_str (by decide +kernel) (by decide +kernel) (by decide +kernel)
  · exact word_of rfl (fun s z => by cases z) tx_n
  · exact word_of rfl (fun s z => by cases z) (tx_bl _)
  · exact word_of rfl (fun s z => by cases z) (tx_int _ (by decide +kernel))
  · exact word_of rfl (fun s z => by cases z) (tx_int _ (by decide +kernel))
  · exact word_of rfl (fun s z => by cases z) tx_lst1
  · exact word_of rfl (fun s z => by cases z) tx_tup1
  · exact word_of rfl (fun s z => by cases z) tx_d0
  · exact word_rat ⟨sz100 (by decide +kernel) (by decide), sz100 (by decide +kernel) (by decide)⟩
theorem k_law_odd_amount (T : Txt W.K W.mg a) : Cl W 8 "_law_odd_amount" (spW true fun rs k => rs = [.pot] ∧ ∀ x, AmtX a.Ratio a.Move x → Tx a.Ratio a.Move x → k (.d x)) := by
  refine cl_W T.d_law_odd_amount sc_law_odd_amount bd_law_odd_amount (fun rs k ⟨h, _⟩ => by rw [h]; rfl) (body_W (n := 1) (m := 1) rfl (fun rs k ⟨h, _⟩ => by rw [h]; rfl) fun f cdv A outer s H E hr => ⟨_, (pss_cons (ps_set (i := 1) sc_law_odd_amount.nd rfl (Or.inl rfl) (pe_lst (pa_cons pe_int (pa_cons (pe_op op_subU pe_int pe_int) (pa_cons (pe_mak (m_Ratio1 T) hr (by decide) rfl (pa_cons pe_int pa_nil)) (pa_cons (pe_mak (m_Ratio2 T) hr (by decide) rfl (pa_cons (pe_op op_subU pe_int pe_int) (pa_cons pe_int pa_nil))) (pa_cons pe_bl (pa_cons pe_bl (pa_cons pe_non (pa_cons pe_str (pa_cons pe_str (pa_cons (pe_lst (pa_cons pe_int pa_nil)) (pa_cons (pe_tup (pa_cons pe_int (pa_cons pe_int pa_nil))) (pa_cons pe_dnewK (pa_cons (pe_mak (m_Move3 T) hr (by decide) rfl (pa_cons pe_str (pa_cons pe_str (pa_cons pe_str pa_nil)))) pa_nil))))))))))))))) (pss_one (ps_ret (pe_cl (k_law_pick T) hr (by decide) rfl (pa_cons (pv 0) (pa_cons (pe_op op_addU (pv 1) (pe_lst (pa_cons (pe_op op_subU pe_int (pe_op op_pow pe_int pe_int)) (pa_cons (pe_mak (m_Ratio2 T) hr (by decide) rfl (pa_cons (pe_op op_subU pe_int pe_int) (pa_cons (pe_op op_pow pe_int pe_int) pa_nil))) pa_nil)))) pa_nil)))))), fun π rs kr hp hB => ?_⟩)
  obtain ⟨rfl, q⟩ := hB
  dsimp only [uns, List.replicate, List.cons_append, List.nil_append]
  repeat walk_at "wk"
  refine w_ratio1 ?_
  repeat walk_at "wk"
  refine w_ratio2 ?_
  repeat walk_at "wk"
  refine ⟨0 - 1, 3, rfl, by decide, sz_mono (n := 4000) (sz_lit (by decide)) (by decide), sz_mono (n := 4000) (sz_lit (by decide)) (by decide), ?_⟩
  repeat walk_at "wk"
  refine w_make (drs := []) trivial ?_
  repeat walk_at "wk"
  refine ⟨_, rfl, rfl, rfl, "a", "b", "c", rfl, by decide +kernel, by decide +kernel, by decide +kernel, by decide +kernel, ?_⟩
  repeat walk_at "wk"
  have c20 : CPow 10 20 := ⟨by decide, by decide, by decide⟩
  refine wg_new fun p1 => ?_
  dsimp only [List.set]
  repeat walk_at "wk"
  refine wop_pow c20 ?_
  repeat walk_at "wk"
  refine w_ratio2 ?_
  repeat walk_at "wk"
  refine wop_pow c20 ?_
  repeat walk_at "wk"
  refine ⟨0 - 1, 10 ^ 20, rfl, by decide +kernel, sz_mono (n := 4000) (sz_lit (by decide)) (by decide), sz100 (by decide +kernel) (by decide), ?_⟩
  repeat walk_at "wk"
  refine wop_cat rfl rfl (by show 13 + 2 ≤ 4000; decide) ?_
  repeat walk_at "wk"
  refine wcb_pick hp rfl (by simp) (by show 15 ≤ 4000; decide) fun d hd => ?_
  simp only [List.cons_append, List.nil_append, List.mem_cons, List.not_mem_nil, or_false] at hd
  have am : AmtX a.Ratio a.Move d ∧ Tx a.Ratio a.Move d := by
    rcases hd with rfl | rfl | rfl | rfl | rfl | rfl | rfl | rfl | rfl | rfl | rfl | rfl | rfl | rfl | rfl
    · exact ⟨.num (NumQ.int _) (by decide +kernel) (sz100 (by decide +kernel) (by decide)), tx_int _ (by decide +kernel)⟩
    · exact ⟨.num (NumQ.int _) (by decide +kernel) (sz100 (by decide +kernel) (by decide)), tx_int _ (by decide +kernel)⟩
    · exact ⟨.num (NumQ.rat _) (by decide +kernel) (sz100 (by decide +kernel) (by decide)), tx_rat ⟨sz100 (by decide +kernel) (by decide), sz100 (by decide +kernel) (by decide)⟩⟩
    · exact ⟨.num (NumQ.rat _) (by decide +kernel) (sz100 (by decide +kernel) (by decide)), tx_rat ⟨sz100 (by decide +kernel) (by decide), sz100 (by decide +kernel) (by decide)⟩⟩
    · exact ⟨.pl .bl, tx_bl _⟩
    · exact ⟨.pl .bl, tx_bl _⟩
    · exact ⟨.pl .non, tx_n⟩
    · exact ⟨.pl .str, (word_str (by decide +kernel) (by decide +kernel) (by decide +kernel)).tx⟩
    · exact ⟨.pl .str, (word_str (by decide +kernel) (by decide +kernel) (by decide +kernel)).tx⟩
    · exact ⟨.pl .lst, tx_lst2⟩
    · exact ⟨.pl .tup, tx_tup2⟩
    · exact ⟨.pl .dct, tx_d0⟩
    · exact ⟨.mov ("a", "b", "c"), tx_mov (by decide +kernel) (by decide +kernel) (by decide +kernel)⟩
    · exact ⟨.num (NumQ.int _) (by decide +kernel) (sz100 (by decide +kernel) (by decide)), tx_int _ (by decide +kernel)⟩
    · exact ⟨.num (NumQ.rat _) (by decide +kernel) (sz100 (by decide +kernel) (by decide)), tx_rat ⟨sz100 (by decide +kernel) (by decide), sz100 (by decide +kernel) (by decide)⟩⟩
  exact out_d (q d am.1 am.2)
theorem k_law_words (T : Txt W.K W.mg a) : Cl W 8 "_law_words" (spW true fun rs k => ∃ ss : List Str, rs = [.pot, .d (.lst (ss.map D.str))] ∧ ss ≠ [] ∧ ss.length ≤ 100 ∧ (∀ s ∈ ss, nmB s = true) ∧ ∀ x y z, Word a.Ratio a.Move x → Word a.Ratio a.Move y → Word a.Ratio a.Move z → k (.new (.lst [x, y, z]))) := by
  refine cl_W T.d_law_words sc_law_words bd_law_words (fun rs k ⟨_, h, _⟩ => by rw [h]; rfl) (body_W (n := 2) (m := 3) rfl (fun rs k ⟨_, h, _⟩ => by rw [h]; rfl) fun f cdv A outer s H E hr => ⟨_, (pss_cons (ps_setLc (i := 2) (own := [("_law_turn", 3)]) (g := (gName 3)) (tt := tYes) rfl sc_law_words.nd rfl rfl (sw_true rfl rfl rfl (by decide +kernel)) (pi_range1 rfl T.b_range (pa_cons pe_int pa_nil)) (blkOk_by (N := N_law_words) (sc := defScope s_law_words) (by decide +kernel)) (fun _ _ _ _ _ => (pg_name (i := 3) sc_law_words.nd rfl (Or.inl rfl))) (fun _ _ _ _ _ => pts_nil) (fun _ _ _ _ _ => (pe_cl (k_law_pick T) hr (by decide) rfl (pa_cons (pv 0) (pa_cons (pv 1) pa_nil))))) (pss_one (ps_ret (pe_lc (own := [("_law_word", 4)]) (g := (gName 4)) (tt := tYes) rfl sc_law_words.nd (pi_listK (K := W.K) rfl (pv 2)) (blkOk_by (N := N_law_words) (sc := defScope s_law_words) (by decide +kernel)) (fun _ _ _ _ _ => (pg_name (i := 4) sc_law_words.nd rfl (Or.inl rfl))) (fun _ _ _ _ _ => pts_nil) (fun _ _ _ _ _ => (pe_ifExp (pt_cmpR (r := rEqU W.K) (op_eqU hr.units) (pe_cl (k_law_draw T) hr (by decide) rfl (pa_cons (pv 0) (pa_cons pe_int pa_nil))) pe_int (nomark _)) (pe_cl (k_law_odd_name T) hr (by decide) rfl (pa_cons (pv 0) pa_nil)) (pv 4))))))), fun π rs kr hp hB => ?_⟩)
  obtain ⟨ss, rfl, hne, hl, hn, q⟩ := hB
  dsimp only [uns, List.replicate, List.cons_append, List.nil_append]
  repeat walk_at "wk"
  refine w_lc1 (j := 3) (by decide) (fun _ _ x => Word a.Ratio a.Move x) (wi_rng1 ?_)
  repeat walk_at "wk"
  refine ⟨3, rfl, by decide, by decide, by rw [rng_len]; decide, fun i d hd => ?_, fun xs lx hx => ?_⟩
  · dsimp only [List.map, wipeD, List.set]
    repeat walk_at "wk"
    refine wcb_pick hp rfl (by simpa using hne) (by rw [List.length_map]; omega) fun d hd => ?_
    obtain ⟨s, hs, rfl⟩ := List.mem_map.mp hd
    exact ⟨_, rfl, word_nm (hn s hs)⟩
  rw [rng_len] at lx
  have hx : ∀ x ∈ xs, Word a.Ratio a.Move x := fun x hx' => by
    obtain ⟨i, hi, rfl⟩ := List.mem_iff_getElem.mp hx'
    exact hx i _ _ (rng_get (by rw [lx] at hi; exact hi)) (List.getElem?_eq_getElem hi)
  refine wg_new fun p1 => ?_
  dsimp only [List.set]
  refine ws_frz (n := 2) rfl ?_
  dsimp only [List.set]
  repeat walk_at "wk"
  refine w_lc1 (j := 4) (by decide) (fun _ _ x => Word a.Ratio a.Move x) (wi_list ?_)
  repeat walk_at "wk"
  refine ⟨_, rfl, by omega, fun i d hd => ?_, fun ys ly hy => ?_⟩
  · have hw := hx d (List.mem_of_getElem? hd)
    dsimp only [List.map, wipeD, List.set]
    repeat walk_at "wk"
    refine wcb_draw (by decide) (sz_lit (by decide)) fun n n0 n1 => ?_
    repeat walk_at "wk"
    by_cases h0 : n = 0
    · rw [decide_eq_true h0, if_pos rfl]
      repeat walk_at "wk"
      exact wcb_W hp (rs := [.pot]) rfl ⟨rfl, fun x h => ⟨_, rfl, h⟩⟩
    · rw [decide_eq_false h0, if_neg (by decide)]
      repeat walk_at "wk"
      exact ⟨_, rfl, hw⟩
  rw [lx] at ly
  have hy : ∀ y ∈ ys, Word a.Ratio a.Move y := fun y hy' => by
    obtain ⟨i, hi, rfl⟩ := List.mem_iff_getElem.mp hy'
    exact hy i _ _ (List.getElem?_eq_getElem (by rw [lx]; rw [ly] at hi; exact hi)) (List.getElem?_eq_getElem hi)
  match ys, ly, hy with
  | [x, y, z], _, hy => exact out_new (q x y z (hy x (.head _)) (hy y (.tail _ (.head _))) (hy z (.tail _ (.tail _ (.head _)))))
end Lw
namespace Dt
open PySem PySem.Spec PyProof.Rows L2 Ly
theorem ws_parF {π : Po} {δ : List Rv} {k : Ke} {t : TA} {i j : Nat} (q : WpA π t δ fun rs => ∃ r1 r2 x y, rs = [r1, r2] ∧ r1.fz = some x ∧ r2.fz = some y ∧ k.nx ((δ.set i (.d x)).set j (.d y))) : Ws π (tPar i j t) k δ := fun H0 X0 L X H σ D iv ev ow en => by
  refine q X H σ _ iv.ok ev fun vs rs H1 k1 a w => ?_
  obtain ⟨r1, r2, x, y, rfl, f1, f2, kk⟩ := w
  have iv1 := iv.keep k1
  have ev1 := ev.keep iv.ok k1
  match vs, a with
  | [v1, v2], ⟨a1, a2, _⟩ =>
    have a1 : At (cut X H1) v1 x := a1.fz iv.ok f1
    have a2 : At (cut X H1) v2 y := a2.fz iv.ok f2
    refine ⟨v1, v2, rfl, ?_⟩
    exact we_name (kn := fun δ' => δ' = δ.set i (.d x)) (i := i) rfl X H1 σ v1 (fun σ1 H' => D.nx (σ1.set j (some v2)) H') iv1.ok ev1 a1 fun σ1 δ1 ev2 s1 e1 =>
      we_name (kn := fun δ' => δ' = δ1.set j (.d y)) (i := j) rfl X H1 σ1 v2 (fun σ2 H' => D.nx σ2 H') iv1.ok ev2 a2 fun σ2 δ2 ev3 s2 e2 =>
        en.nx X H1 σ2 δ2 iv1 ev3 (fun l r p h1 h2 => ow l r p (s1 l r p (s2 l r p h1 h2) h2) h2) (iv.ok.fr k1) (by rw [e2, e1]; exact kk)
end Dt
namespace Lw
open PySem PySem.Spec PyProof.Rows L2 Ly Dt LamX
local macro_rules | `(tactic| walk_at "wk") => `(tactic| first
  | ((with_reducible refine' w_var ?hv ?hn ?_); (case hv => exact rfl); (case hn => (intro z; cases z)))
  | with_reducible refine w_int ?_
  | with_reducible refine w_str ?_
  | with_reducible refine w_op ?_
  | with_reducible refine wa_cons ?_
  | with_reducible refine wa_nil ?_
  | with_reducible refine w_reprL ?_
  | with_reducible refine w_isi2 ?_
  | with_reducible refine w_cb ?_
  | with_reducible refine w_call ?_
  | ((with_reducible refine' ws_retV ?hv ?_); (case hv => exact rfl))
  | with_reducible refine ws_seq ?_
  | with_reducible refine ws_asg ?_
  | with_reducible refine ws_ret ?_
  | with_reducible refine ws_if ?_
  | with_reducible refine ws_next ?_
  | ((with_reducible refine' ws_append ?hv ?hz ?_); (case hv => exact rfl); rotate_left)
  | with_reducible refine ws_drop ?_
  | with_reducible refine ws_retN ?_
  | ((with_reducible refine wg_d ?_); dsimp only [List.set])
  | ((with_reducible refine wg_raw ?_); dsimp only [List.set])
  | ((with_reducible refine wg_E ?_))
  | ((with_reducible refine' we_tup ?hl ?_); (case hl => exact rfl))
  | with_reducible refine wes_cons ?_
  | with_reducible refine wes_nil ?_
  | ((with_reducible refine we_name ?_); dsimp only [List.set])
  | with_reducible refine out_d ?_
  | with_reducible refine out_new ?_
  | with_reducible refine ex_bl ?_
  | with_reducible refine ite_t ?_
  | ((with_reducible refine ex_fzd ?_); dsimp only [List.set, List.nil_append, List.cons_append])
  | ((with_reducible refine ex_fzn ?_); dsimp only [List.set, List.nil_append, List.cons_append])
  | with_reducible refine ite_nt ?_
  | with_reducible refine ite_nf ?_
  | with_reducible refine ite_f ?_
  | with_reducible refine wt_tb ?_
  | with_reducible refine wt_test ?_
  | with_reducible refine wt_and ?_
  | with_reducible refine wt_or ?_
  | with_reducible refine wt_not ?_
  | with_reducible refine w_andV ?_
  | with_reducible refine w_orV ?_
  | with_reducible refine w_notV ?_
  | with_reducible refine w_if ?_
  | with_reducible refine w_bl ?_
  | with_reducible refine w_non ?_
  | with_reducible refine w_ty ?_
  | with_reducible refine w_ref ?_
  | with_reducible refine w_un ?_
  | ((with_reducible refine w_tup ?_); skip)
  | ((with_reducible refine w_lst ?_); skip)
  | ((with_reducible refine' Exists.intro _ (And.intro ?hf (And.intro ?hl ?_))); (case hf => exact rfl); (case hl => exact Nat.le_of_ble_eq_true rfl))
  | with_reducible refine w_fld ?_
  | ((with_reducible refine' fld_of ?ho ?c ?n ?l ?_); (case ho => exact rfl); (case c => assumption); (case n => with_reducible assumption); (case l => exact rfl))
  | with_reducible refine wp_top ?_
  | with_reducible refine wp_bot ?_
  | with_reducible refine w_prop ?_
  | with_reducible refine w_meth ?_
  | with_reducible refine w_smeth ?_
  | with_reducible refine wop_addI ?_
  | with_reducible refine wop_subI ?_
  | ((with_reducible refine' wop_mulI ?c ?_); rotate_left)
  | ((with_reducible refine' wop_fdI ?c ?_); rotate_left)
  | with_reducible refine wop_mdI (by first | decide | assumption) ?_
  | ((with_reducible refine' wop_mdI ?c ?_); rotate_left)
  | ((with_reducible refine' wop_I0 ?e ?_); (case e => exact rfl))
  | ((with_reducible refine' wop_ixT ?e ?_); (case e => exact rfl))
  | ((with_reducible refine' wcb_lenL ?e ?_); (case e => exact rfl))
  | with_reducible refine wcb_lenT ?_
  | ((with_reducible refine' wop_fdX ?c ?_); rotate_left)
  | ((with_reducible refine' wun_U ?e ?_); (case e => exact rfl))
  | with_reducible refine wop_eqI ?_
  | with_reducible refine wop_neI ?_
  | with_reducible refine wop_eqS ?_
  | with_reducible refine wop_neS ?_
  | with_reducible refine wop_isN ?_
  | with_reducible refine wop_notN ?_
  | ((with_reducible refine' wop_inS ?e ?_); (case e => exact rfl))
  | ((with_reducible refine' wop_niS ?e ?_); (case e => exact rfl))
  | with_reducible refine wop_inST ?_
  | with_reducible refine wcb_gcd ?_
  | with_reducible refine wcb_abs ?_
  | with_reducible refine wcb_max2 ?_
  | with_reducible refine wcb_min2 ?_
  | with_reducible refine wcb_int ?_
  | ((with_reducible refine' wcb_isi (b := true) ?ho ?hb ?_); (case ho => exact rfl); (case hb => (dsimp only [tyN]; decide +kernel)))
  | ((with_reducible refine' wcb_isi (b := false) ?ho ?hb ?_); (case ho => exact rfl); (case hb => (dsimp only [tyN]; decide +kernel)))
  | ((with_reducible refine' wcb_listOf ?e ?_); (case e => exact rfl))
  | with_reducible refine wcb_listOfT ?_
  | ((with_reducible refine' wcb_tupOf ?e ?_); (case e => exact rfl))
  | with_reducible refine w_chain ?_
  | with_reducible refine wcb_strS ?_
  | ((with_reducible refine' wcb_lenD ?e ?_); (case e => exact rfl))
  | ((with_reducible refine' wcb_listD ?e ?_); (case e => exact rfl))
  | with_reducible refine w_dnewK ?_
  | with_reducible refine w_dget ?_
  | with_reducible refine w_din ?_
  | with_reducible refine w_dni ?_
  | with_reducible refine w_lenSet ?_
  | with_reducible refine w_listVals ?_
  | with_reducible refine w_chain ?_
  | ((with_reducible refine' wt_yes ?_)))
variable {W : Wd} {a : Ad}
theorem k_law_right (T : Txt W.K W.mg a) (TB1 : TabB W.base W.mg a.c_law_move_right a.t_law_move_right) (TB2 : TabB W.base W.mg a.c_law_single_right a.t_law_single_right) (TB3 : TabB W.base W.mg a.c_law_gift_right a.t_law_gift_right) : ClG W 16 "_law_right" (spT (tbR a) true fun rs k => rs = [.pot] ∧ k (.d (.bl true))) := by
  refine clg_T T.d_law_right sc_law_right bd_law_right (fun rs k ⟨h, _⟩ => by rw [h]; rfl) (body_T (n := 1) (m := 4) rfl (fun rs k ⟨h, _⟩ => by rw [h]; rfl) fun f cdv A outer s H E hr hgd => ⟨_, (pss_cons (ps_set (i := 1) sc_law_right.nd rfl (Or.inl rfl) (pe_op op_addU (pe_cl (kd_law_named T) hr (by decide) rfl (pa_cons (pv 0) (pa_cons (pe_op op_addU pe_int (pe_cl (k_law_draw T) hr (by decide) rfl (pa_cons (pv 0) (pa_cons pe_int pa_nil)))) (pa_cons (pe_lst pa_nil) pa_nil)))) (pe_lst (pa_cons pe_str pa_nil)))) (pss_cons (ps_for PassesOwn.never rfl (pi_range1 rfl T.b_range (pa_cons pe_int pa_nil)) (pg_name (i := 2) sc_law_right.nd rfl (Or.inl rfl)) (pss_cons (ps_par (i := 3) (j := 4) (by rfl) sc_law_right.nd rfl rfl (by decide) rfl rfl (pa_cons (pe_cl (k_law_words T) hr (by decide) rfl (pa_cons (pv 0) (pa_cons (pv 1) pa_nil))) (pa_cons (pe_cl (k_law_odd_amount T) hr (by decide) rfl (pa_cons (pv 0) pa_nil)) pa_nil)) (by rfl)) (pss_one (ps_if (PW.pt (pw_or (pt_not (pt_val (pe_clG (k_law_move_right T TB1 TB2 TB3) hr hgd (by decide) rfl (pa_cons (pv 3) pa_nil)))) (pw_or (pt_not (pt_val (pe_clG (k_law_single_right T TB1 TB2 TB3) hr hgd (by decide) rfl (pa_cons (pv 3) (pa_cons (pv 4) pa_nil))))) (pw_or1 (pt_not (pt_val (pe_clG (k_law_gift_right T TB1 TB2 TB3) hr hgd (by decide) rfl (pa_cons (pv 0) (pa_cons (pv 4) pa_nil))))))))) (pss_one (ps_ret pe_bl)) pss_nil)))) (pss_one (ps_ret pe_bl)))), fun π rs kr hp hT hB => ?_⟩)
  obtain ⟨rfl, q⟩ := hB
  dsimp only [uns, List.replicate, List.cons_append, List.nil_append]
  repeat walk_at "wk"
  refine wcb_draw (by decide) (sz_lit (by decide)) fun n n0 n1 => ?_
  repeat walk_at "wk"
  refine wcb_named hp (tk := []) rfl (by omega) (by show (2 + n).toNat + 0 < 100; omega) fun ss sl sn so => ?_
  repeat walk_at "wk"
  refine wop_cat rfl rfl (by rw [List.length_map, sl]; show (2 + n).toNat + 1 ≤ 4000; omega) ?_
  refine wg_new fun p1 => ?_
  dsimp only [List.set]
  have e1 : ss.map D.str ++ [.str "zzzzzzzz"] = (ss ++ [("zzzzzzzz" : Str)]).map D.str := by rw [List.map_append]; rfl
  rw [e1]
  have n1' : ∀ s ∈ ss ++ [("zzzzzzzz" : Str)], nmB s = true := fun s h => by
    rcases List.mem_append.mp h with h | h
    · exact nm_nmB (so s h).1
    · rw [List.mem_singleton.mp h]; decide +kernel
  have l1 : (ss ++ [("zzzzzzzz" : Str)]).length ≤ 100 := by rw [List.length_append, sl]; show (2 + n).toNat + 1 ≤ 100; omega
  have e0 : ss ++ [("zzzzzzzz" : Str)] ≠ [] := by simp
  generalize ss ++ [("zzzzzzzz" : Str)] = us at n1' l1 e0 ⊢
  refine ws_frz (n := 1) rfl ?_
  dsimp only [List.set]
  refine ws_seq (ws_for (wi_rng1 ?_))
  repeat walk_at "wk"
  refine ⟨6, rfl, by decide, by decide, fun i δ => ∃ r1 r2 r3 : Rv, δ = [.pot, .d (.lst (us.map D.str)), r1, r2, r3], ⟨_, _, _, rfl⟩, fun i d δ' hd hI => ?_, fun δ' hI => ?_⟩
  · obtain ⟨r1, r2, r3, rfl⟩ := hI
    refine we_name ?_
    dsimp only [List.set]
    refine ws_seq (ws_parF ?_)
    repeat walk_at "wk"
    refine wcb_W hp (rs := [.pot, .d (.lst (us.map D.str))]) rfl ⟨us, rfl, e0, l1, n1', fun t s g h1 h2 h3 => ?_⟩
    repeat walk_at "wk"
    refine wcb_W hp (rs := [.pot]) rfl ⟨rfl, fun x hx tx => ?_⟩
    repeat walk_at "wk"
    refine ⟨_, _, _, _, rfl, rfl, rfl, ?_⟩
    dsimp only [List.set]
    repeat walk_at "wk"
    refine wcb_T hp hT (rs := [.d (.lst [t, s, g])]) rfl ⟨t, s, g, rfl, h1, h2, h3, ?_⟩
    refine ⟨_, rfl, ?_⟩
    rw [if_neg (by decide)]
    repeat walk_at "wk"
    refine wcb_T hp hT (rs := [.d (.lst [t, s, g]), .d x]) rfl ⟨t, s, g, x, rfl, h1, h2, h3, hx, tx, ?_⟩
    refine ⟨_, rfl, ?_⟩
    rw [if_neg (by decide)]
    repeat walk_at "wk"
    refine wcb_T hp hT (rs := [.pot, .d x]) rfl ⟨x, rfl, hx, tx, ?_⟩
    refine ⟨_, rfl, ?_⟩
    rw [if_neg (by decide)]
    repeat walk_at "wk"
    exact ⟨_, _, _, rfl⟩
  · obtain ⟨r1, r2, r3, rfl⟩ := hI
    repeat walk_at "wk"
    exact q
end Lw
namespace Dt
open PySem PySem.Spec PyProof.Rows L2 Ly
end Dt
namespace Lw
open PySem PySem.Spec PyProof.Rows L2 Ly LamX
local macro_rules | `(tactic| walk_at "rd") => `(tactic| first
  | ((with_reducible refine' i_var ?hv ?_); (case hv => exact rfl))
  | with_reducible refine i_c ?_
  | with_reducible refine i_op ?_
  | with_reducible refine i_cons ?_
  | with_reducible refine i_nil ?_
  | with_reducible refine i_cb ?_
  | with_reducible refine i_call ?_
  | with_reducible refine i_I0 ?_
  | with_reducible refine i_add_i ?_
  | with_reducible refine i_sub_i ?_
  | with_reducible refine i_md_i (by first | decide | assumption) ?_
  | ((with_reducible refine' i_md_i ?c ?_); rotate_left)
  | ((with_reducible refine' i_mul_i ?c ?_); rotate_left)
  | with_reducible refine i_fd_i (by decide) ?_
  | ((with_reducible refine' i_fd_i ?c ?_); rotate_left)
  | with_reducible refine i_int ?_
  | with_reducible refine i_abs ?_
  | with_reducible refine i_max2 ?_
  | with_reducible refine i_min2 ?_
  | with_reducible refine i_gcd ?_
  | with_reducible refine i_seq ?_
  | with_reducible refine i_if ?_
  | with_reducible refine i_asg ?_
  | with_reducible refine i_ret ?_
  | with_reducible refine i_drop ?_
  | with_reducible refine i_next ?_
  | with_reducible refine i_un ?_
  | with_reducible refine i_U ?_
  | ((with_reducible refine i_gname ?_); dsimp only [List.set])
  | with_reducible refine i_test ?_
  | with_reducible refine i_not ?_
  | with_reducible refine i_tb ?_
  | with_reducible refine i_andV ?_
  | with_reducible refine i_orV ?_
  | with_reducible refine i_notV ?_
  | with_reducible refine i_ifx ?_
  | with_reducible refine i_ext ?_
  | with_reducible refine i_exf ?_
  | with_reducible refine i_exn ?_
  | with_reducible refine i_itt ?_
  | with_reducible refine i_itf ?_
  | with_reducible refine i_gsub ?_
  | with_reducible refine i_nt ?_
  | with_reducible refine i_tup ?_
  | with_reducible refine i_lst ?_
  | with_reducible refine i_nf ?_
  | with_reducible refine i_isint ?_
  | ((with_reducible refine' i_top ?r ?_); (case r => walk_at "hp"))
  | ((with_reducible refine' i_bot ?r ?_); (case r => walk_at "hp"))
  | with_reducible refine i_fld ?_
  | with_reducible refine i_sfld ?_
  | with_reducible refine i_pp ?_
  | with_reducible refine i_meth ?_
  | with_reducible refine i_smeth ?_
  | with_reducible refine i_make ?_
  | with_reducible refine i_sl ?_
  | with_reducible refine i_noPart ?_
  | with_reducible refine i_part ?_
  | with_reducible refine i_smethK ?_
  | with_reducible refine i_sk1 ?_
  | with_reducible refine i_makeK ?_
  | with_reducible refine i_methK ?_
  | with_reducible refine i_mk11 ?_
  | ((with_reducible refine' i_rmk ?r ?h1 ?h2 ?_); (case r => walk_at "hp"); (case h1 => decide +kernel); (case h2 => decide +kernel))
  | with_reducible refine i_tpar ?_
  | ((with_reducible refine i_rpar ?_); dsimp only [List.set])
  | with_reducible refine i_eq_s rfl ?_
  | with_reducible refine i_ne_s rfl ?_
  | ((with_reducible refine' i_rtop ?r ?c ?n ?_); (case r => walk_at "hp"); (case c => assumption); (case n => assumption))
  | ((with_reducible refine' i_rbot ?r ?c ?n ?_); (case r => walk_at "hp"); (case c => assumption); (case n => assumption))
  | ((with_reducible refine' i_rpp ?r ?_); (case r => walk_at "hp"))
  | ((with_reducible refine' i_rmeth ?r ?h1 ?h2 ?_); (case r => walk_at "hp"); (case h1 => decide +kernel); (case h2 => decide +kernel))
  | ((with_reducible refine' i_ix_l ?hp ?ha ?_); (case hp => walk_at "hp"); (case ha => exact rfl))
  | ((with_reducible refine' i_len_l ?hp ?_); (case hp => walk_at "hp"))
  | ((with_reducible refine' i_ix_f0 ?hp ?_); (case hp => walk_at "hp"))
  | ((with_reducible refine' i_ix_f1 ?hp ?_); (case hp => walk_at "hp"))
  | ((with_reducible refine' i_ix_t ?hp ?ha ?_); (case hp => walk_at "hp"); (case ha => exact rfl)))
local macro_rules | `(tactic| walk_at "hp") => `(tactic| first
  | assumption
  | exact upd_same
  | exact SqL.of (by assumption)
  | (refine' Dr.tup (by assumption) ?hq; (case hq => walk_at "hp"))
  | (refine' FrL.same (by assumption) ?hq; (case hq => walk_at "hp"))
  | (refine' FracAt.same (by assumption) ?hq; (case hq => walk_at "hp"))
  | (refine' FracAt.nl (by assumption) ?hq; (case hq => walk_at "hp"))
  | (refine' RatAt.nl (by assumption) ?hq; (case hq => walk_at "hp"))
  | (refine' Num.nl (by assumption) ?hq; (case hq => walk_at "hp"))
  | (refine' FracAt.pk (by assumption) ?hq; (case hq => walk_at "hp"))
  | (refine' RatAt.pk (by assumption) ?hq; (case hq => walk_at "hp"))
  | (refine' Num.pk (by assumption) ?hq; (case hq => walk_at "hp"))
  | (refine' Dr.keep (by assumption) _ _ (by assumption) ?hq; (case hq => walk_at "hp"))
  | (refine' (show Same _ _ by assumption) _ _ ?hq; (case hq => walk_at "hp"))
  | (refine' RatAt.same (by assumption) ?hq; (case hq => walk_at "hp"))
  | (refine' Num.same (by assumption) ?hq; (case hq => walk_at "hp")))
local macro_rules | `(tactic| walk_at "sm") => `(tactic| first
  | assumption
  | exact Same.refl _
  | (refine' Same.kl (by assumption) (by assumption) ?aa; (case aa => walk_at "sm"))
  | (refine' Same.trans ?aa (by assumption); (case aa => walk_at "sm")))
local macro_rules | `(tactic| walk_at "dr") => `(tactic| first
  | assumption
  | (refine' Dr.same ?aa (by assumption); (case aa => walk_at "dr"))
  | (refine' Dr.trans ?aa (by assumption); (case aa => walk_at "dr")))
variable {W : Wd} {a : Ad}
theorem k_law_pot (T : Txt W.K W.mg a) : Cl W 1 "_law_pot" (spPot W.K) := by
  refine cl_of' T.d_law_pot sc_law_pot bd_law_pot (fun vs H Q E ⟨s, ns, k, h, _⟩ => by rw [h]; rfl) fun f cdv A outer s0 H vs Q E hr h => ?_
  obtain ⟨s, ns, k, rfl, hs, k0, k1, q⟩ := h
  refine ⟨_, (pss_cons (ps_set (i := 2) sc_law_pot.nd rfl (Or.inl rfl) (pe_op op_addU (pe_op op_mulU pe_int (pv 1)) pe_int)) (pss_cons (ps_if (pt_cmpR op_lt (pv 1) (pe_callB (r := Ly.rLen W.K) call_lenU (by rfl) T.b_len (by decide +kernel) (pa_cons (pv 0) pa_nil)) (nomark _)) (pss_one (ps_set (i := 2) sc_law_pot.nd rfl (Or.inl rfl) (pe_callB call_absU (by rfl) T.b_abs (by decide +kernel) (pa_cons (pe_ix (r := rIx W.K) ix_U (pv 0) (pv 1) (fun _ _ => rfl)) pa_nil)))) pss_nil) (pss_one (ps_ret (pe_lst (pa_cons (pe_callB (call_max2U rfl) (by rfl) T.b_max (by decide +kernel) (pa_cons pe_int (pa_cons (pe_op op_subU (pv 2) (pe_op op_pow pe_int pe_int)) pa_nil))) (pa_cons (pe_op op_addU (pe_op op_modU (pe_op op_mulU (pe_callTy call_int1U (by rfl) T.b_int (by decide +kernel) (pa_cons (pe_op op_addU (pe_op op_modU (pe_callTy call_int1U (by rfl) T.b_int (by decide +kernel) (pa_cons (pv 2) pa_nil)) pe_int) pe_int) pa_nil)) (pe_op op_pow (pe_op op_addU (pe_op op_mulU pe_int (pv 1)) pe_int) pe_int)) pe_int) pe_int) pa_nil))))))), ?_⟩
  refine i_start (σ' := [some (V.ref s), some (V.int k), none]) rfl ?_
  have fin : ∀ c : Int, ∀ H1 : Hp, Same H H1 → ∀ p, H1 p = none → Q (.ref p) (upd H1 p (.lst [.int (if c - 10 ^ (18 : Int).toNat > 0 then c - 10 ^ (18 : Int).toNat else 0), .int ((c % 2147483549 + 7) * (2 * k + 3) ^ (3 : Int).toNat % 2147483477 + 1)])) := by
    intro c H1 s1 p np
    have m0 := Int.emod_nonneg ((c % 2147483549 + 7) * (2 * k + 3) ^ (3 : Int).toNat) (show (2147483477 : Int) ≠ 0 by decide)
    have m1 := Int.emod_lt_of_pos ((c % 2147483549 + 7) * (2 * k + 3) ^ (3 : Int).toNat) (show (0 : Int) < 2147483477 by decide)
    refine q p _ (s1.free np) (fun c o e => ?_) ⟨_, _, upd_same, by split <;> omega, by omega, by omega⟩
    rw [upd_ne (ne_of_none (s1 _ _ e) np)]
    exact s1 _ _ e
  have cm : CMulW 29 k := wide_mul (a := 5) (b := 7) (by decide) (by omega) (by decide) (by decide) (by decide)
  have cm2 : CMulW 2 k := wide_mul (a := 5) (b := 7) (by decide) (by omega) (by decide) (by decide) (by decide)
  have two : 2 ≤ sizeLine := by decide
  have fin2 : ∀ c : Int, rMkL [.int (if c - 10 ^ (18 : Int).toNat > 0 then c - 10 ^ (18 : Int).toNat else 0), .int ((c % 2147483549 + 7) * (2 * k + 3) ^ (3 : Int).toNat % 2147483477 + 1)] H Q := fun c => ⟨two, fin c H (Same.refl H)⟩
  have cp1 : CPow 10 18 := ⟨by decide, by decide, by decide⟩
  have cp2 : CPow (2 * k + 3) 3 := ⟨by decide, by decide, by omega⟩
  have cm3 : ∀ c : Int, CMulW (c % 2147483549 + 7) ((2 * k + 3) ^ (3 : Int).toNat) := fun c => by
    have m0 := Int.emod_nonneg c (show (2147483549 : Int) ≠ 0 by decide)
    have m1 := Int.emod_lt_of_pos c (show (0 : Int) < 2147483549 by decide)
    have z : Sz 8 (2 * k + 3) := by
      unfold Sz
      omega
    have z3 : Sz 24 ((2 * k + 3) ^ (3 : Int).toNat) := by
      have e : (2 * k + 3) ^ (3 : Int).toNat = (2 * k + 3) * (2 * k + 3) * (2 * k + 3) := by
        show (2 * k + 3) ^ 3 = _
        rw [Int.pow_succ, Int.pow_succ, Int.pow_succ, Int.pow_zero, Int.one_mul]
      rw [e]
      exact sz_mul (sz_mul z z) z
    exact cmul_sz (n := 32) (by unfold Sz; omega) z3
  repeat walk_at "rd"
  refine i_len_L hs ?_
  repeat walk_at "rd"
  refine i_dec (fun h0 => ?_) (fun h0 => ?_)
  · have hlt : k.toNat < ns.length := by
      rw [List.length_map] at h0
      omega
    repeat walk_at "rd"
    refine i_ix_L hs (v := .int ns[k.toNat]) ?_ ?_
    · have z := atI_nat (xs := ns.map V.int) (j := k.toNat) (v := .int ns[k.toNat]) (by simp [hlt])
      rw [show ((k.toNat : Nat) : Int) = k by omega] at z
      exact z
    repeat walk_at "rd"
    refine i_I cp1 ?_
    repeat walk_at "rd"
    refine i_I cp2 ?_
    repeat walk_at "rd"
    · exact fin2 _
    · exact cm2
    · exact cm3 _
  · repeat walk_at "rd"
    refine i_I cp1 ?_
    repeat walk_at "rd"
    refine i_I cp2 ?_
    repeat walk_at "rd"
    · exact fin2 _
    · exact cm2
    · exact cm3 _
  · exact cm
def spLaw (K : PySem.W.Frag) (ts : List Addr) : Sp := fun vs H Q _ => ∃ (a : Addr) (ns : List Int), vs = [.ref a] ∧ SqL K H a (ns.map V.int) ∧ ns.length ≤ 63 ∧ (∀ t ∈ ts, H t = some (.tbl #[])) ∧ ∀ H', Q (.bl true) H'
theorem bo_law (T : Txt W.K W.mg a) (TB1 : TabB W.base W.mg a.c_law_move_right a.t_law_move_right) (TB2 : TabB W.base W.mg a.c_law_single_right a.t_law_single_right) (TB3 : TabB W.base W.mg a.c_law_gift_right a.t_law_gift_right) : BodyG W 18 N_law "law" s_law (spLaw W.K [a.t_law_move_right, a.t_law_single_right, a.t_law_gift_right]) := by
  intro f cdv A outer s0 H vs Q E hr hgd h
  obtain ⟨l, ns, rfl, hs, hl, ht, q⟩ := h
  have hT : Tabs (tbR a) H := fun p hp => by
    simp only [List.mem_cons, List.not_mem_nil, or_false] at hp
    rcases hp with rfl | rfl | rfl <;> exact Dt.tabs_emp (ht _ (by simp))
  refine ⟨_, (pss_one (ps_ret (pe_callB (r := rAll W.K) (cr_all rfl) (by rfl) T.b_all (by decide +kernel) (pa_cons (pe_lc (own := [("_law_k", 1)]) (g := (gName 1)) (tt := tYes) rfl sc_law.nd (pi_range1 rfl T.b_range (pa_cons (pe_callB (call_max2U rfl) (by rfl) T.b_max (by decide +kernel) (pa_cons pe_int (pa_cons (pe_callB (call_min2U rfl) (by rfl) T.b_min (by decide +kernel) (pa_cons pe_int (pa_cons (pe_callB (r := Ly.rLen W.K) call_lenU (by rfl) T.b_len (by decide +kernel) (pa_cons (pv 0) pa_nil)) pa_nil))) pa_nil))) pa_nil)) (blkOk_by (N := N_law) (sc := defScope s_law) (by decide +kernel)) (fun _ _ _ _ _ => (pg_name (i := 1) sc_law.nd rfl (Or.inl rfl))) (fun _ _ _ _ _ => pts_nil) (fun _ _ _ _ _ => (pe_clG (k_law_right T TB1 TB2 TB3) hr hgd (by decide) rfl (pa_cons (pe_cl (k_law_pot T) hr (by decide) rfl (pa_cons (pv 0) (pa_cons (pv 1) pa_nil))) pa_nil)))) pa_nil)))), ?_⟩
  refine i_start (σ' := [some (V.ref l), none]) rfl ?_
  refine i_ret ?_
  refine i_cb ?_
  refine i_cons ?_
  have hlen : (ns.map V.int).length = ns.length := List.length_map ..
  refine Dt.i_lcRT (T := tbR a) (m := if (if ((ns.map V.int).length : Int) < 4 then ((ns.map V.int).length : Int) else 4) > 1 then (if ((ns.map V.int).length : Int) < 4 then ((ns.map V.int).length : Int) else 4) else 1) (fun v => v = V.bl true) hT (fun Q' hQ => ?_) ?_ ?_ (fun x => rfl) ?_ ?_
  · repeat walk_at "rd"
    refine i_len_L hs ?_
    repeat walk_at "rd"
    exact hQ
  · split <;> omega
  · split
    · split <;> omega
    · decide
  · intro i H' Q' hi k q'
    have hi2 : (i : Int) < 100 := by
      have : (i : Int) < 5 := by
        refine Int.lt_of_lt_of_le hi ?_
        split
        · split <;> omega
        · decide
      omega
    dsimp only [List.map, wipe, List.set]
    repeat walk_at "rd"
    refine ⟨l, ns, (i : Int), rfl, Dt.kp_seq hT k hs, by omega, hi2, fun p H1 np s1 hp => ?_⟩
    repeat walk_at "rd"
    exact Dt.pot_callT (Dt.ok_tabs (Dt.kp_tabs k)) np s1 hp ⟨rfl, rfl⟩ fun H2 k2 => q' _ H2 k2 rfl
  · intro r H' ys hr' k hy g
    repeat walk_at "rd"
    have ey : ys = (List.replicate ys.length true).map V.bl := by
      apply List.ext_getElem?
      intro i
      rw [List.getElem?_map]
      rcases Nat.lt_or_ge i ys.length with h | h
      · rw [List.getElem?_eq_getElem h, g ys[i] (List.getElem_mem h)]
        simp [h]
      · simp [h]
    refine ⟨r, List.replicate ys.length true, rfl, ?_, ?_⟩
    · rw [← ey]
      exact SqL.of hr'
    · rw [show (List.replicate ys.length true).all id = true by simp]
      exact q H'
theorem fin {l : PySem.W.OpenLaw} {w : World} {K : PySem.W.Frag} {h : Heap} {mg : Str → Option Value} {fa : Addr} {ad : Ad} (X : K.In h) (G : h.Ns mainGlobals mg) (hfa : mg "law" = some (.ref fa)) (T : Txt K mg ad) :
    ∃ fd : FuncData, (∀ (s : Shared) (v : Value), BindsTo s fd ⟨[v], []⟩ [("_law_script", v)]) ∧ ∀ base : Heap, K.In base → base.Ns mainGlobals mg → (∀ p ∈ [(ad.c_law_move_right, ad.t_law_move_right), (ad.c_law_single_right, ad.t_law_single_right), (ad.c_law_gift_right, ad.t_law_gift_right)], TabB base mg p.1 p.2) → FnG l.prog w K mg base 40 fa fd ["_law_script"] (spLaw K [ad.t_law_move_right, ad.t_law_single_right, ad.t_law_gift_right]) := by
  obtain ⟨f, fd, F, hm⟩ := T.d_law.ex
  have e := hfa.symm.trans hm
  cases e
  obtain ⟨oc, od, kV, doc, pm, an, cdv, ct, osl, rfl, lk, hc⟩ := F.ex
  refine ⟨PySem.W.fnOf "law" "law" (defArgs s_law) (defBody s_law) (defScope s_law) .none kV doc pm an cdv ct, fun s v => .of_eq rfl, fun base _ _ hb => ?_⟩
  exact (fng_fun (W := ⟨l.prog, w, K, mg, base⟩) F sc_law (fun vs H Q E ⟨a, ns, h, _⟩ => by rw [h]; rfl) (bo_law (W := ⟨l.prog, w, K, mg, base⟩) (a := ad) T (hb _ (.head _)) (hb _ (.tail _ (.head _))) (hb _ (.tail _ (.tail _ (.head _)))))).mono (by decide)
end Lw
namespace Lw
open PySem PySem.Spec PyProof.Rows L2 Ly
def adOf (K : PySem.W.Frag) : Ad := ⟨He.ga K "LoadError", (tcP K "_law_move_right").1, (tcP K "_law_move_right").2, (tcP K "_law_single_right").1, (tcP K "_law_single_right").2, (tcP K "_law_gift_right").1, (tcP K "_law_gift_right").2, He.ga K "Ratio", He.ga K "Move", He.ga K "Gift", He.ga K "InvalidName", He.ga K "InvalidNumber", He.ga K "InvalidMoves"⟩
theorem txt_of {K : PySem.W.Frag} {h : Heap} {mg : Str → Option Value} (X : K.In h) (G : h.Ns mainGlobals mg) (c : SaysX hfa hfn K) (ct : ∀ x ∈ htb, TbL K h x) : Txt K mg (adOf K) := by
  refine ⟨?_, ?_, ?_, ?_, ?_, ?_, ?_, ?_, ?_, ?_, ?_, ?_, ?_, ?_, ?_, ?_, ?_, ?_, ?_, ?_, ?_, ?_, ?_, ?_, ?_, ?_, ?_, ?_, ?_, ?_, ?_, ?_, ?_, ?_, ?_, ?_, ?_, ?_, ?_, ?_, ?_, ?_, ?_, ?_, ?_, ?_, ?_, ?_, ?_, ?_, ?_, ?_, ?_, ?_, ?_, ?_, ?_, ?_, ?_, ?_, ?_, ?_, ?_, ?_, ?_, ?_, ?_, ?_, ?_, ?_, ?_, ?_, ?_, ?_, ?_, ?_, ?_, ?_, ?_, ?_, ?_, ?_, ?_, ?_, ?_, ?_, ?_, ?_, ?_, ?_, ?_, ?_, ?_, ?_, ?_, ?_, ?_, ?_⟩
  · exact ownB_ok X G (c.fact 0 (f := fun K => ownB K "Ratio") rfl)
  · exact noaB_ok (c.fact 1 (f := fun K => noaB K "Ratio" "_top") rfl)
  · exact noaB_ok (c.fact 2 (f := fun K => noaB K "Ratio" "_bottom") rfl)
  · exact ownB_ok X G (c.fact 3 (f := fun K => ownB K "Move") rfl)
  · exact noaB_ok (c.fact 4 (f := fun K => noaB K "Move" "_names") rfl)
  · exact ownB_ok X G (c.fact 5 (f := fun K => ownB K "Gift") rfl)
  · exact noaB_ok (c.fact 6 (f := fun K => noaB K "Gift" "_amount") rfl)
  · exact noaB_ok (c.fact 7 (f := fun K => noaB K "Gift" "_moves") rfl)
  · exact gfX X G (c.fact 8 (f := fun K => bloB K "is_integer") rfl) (c.def_ 0 (d := ⟨fun K => He.ga K "is_integer", "is_integer", "is_integer", s_is_integer, []⟩) rfl)
  · exact gfX X G (c.fact 9 (f := fun K => bloB K "is_count") rfl) (c.def_ 1 (d := ⟨fun K => He.ga K "is_count", "is_count", "is_count", s_is_count, []⟩) rfl)
  · exact gfX X G (c.fact 10 (f := fun K => bloB K "is_name") rfl) (c.def_ 2 (d := ⟨fun K => He.ga K "is_name", "is_name", "is_name", s_is_name, []⟩) rfl)
  · exact gxX X G (c.fact 11 (f := fun K => xcB K "InvalidNumber" 0) rfl) (c.def_ 3 (d := ⟨fun K => He.ma K (He.ga K "InvalidNumber") "__init__", "__init__", "InvalidNumber.__init__", s_InvalidNumber_init, []⟩) rfl)
  · exact dec_ok (c.fact 12 (f := fun K => decide (PySem.W.typeIn K (.ref (He.ga K "InvalidNumber")) = some (.type "type"))) rfl)
  · exact He.eqO_ok (c.fact 13 (f := fun K => He.eqO (PySem.W.findIn K (.ref (He.ga K "InvalidNumber")) "value") (some none)) rfl)
  · exact gxX X G (c.fact 14 (f := fun K => xcB K "InvalidName" 0) rfl) (c.def_ 4 (d := ⟨fun K => He.ma K (He.ga K "InvalidName") "__init__", "__init__", "InvalidName.__init__", s_InvalidName_init, []⟩) rfl)
  · exact dec_ok (c.fact 15 (f := fun K => decide (PySem.W.typeIn K (.ref (He.ga K "InvalidName")) = some (.type "type"))) rfl)
  · exact He.eqO_ok (c.fact 16 (f := fun K => He.eqO (PySem.W.findIn K (.ref (He.ga K "InvalidName")) "value") (some none)) rfl)
  · exact gxX X G (c.fact 17 (f := fun K => xcB K "InvalidMoves" 0) rfl) (c.def_ 5 (d := ⟨fun K => He.ma K (He.ga K "InvalidMoves") "__init__", "__init__", "InvalidMoves.__init__", s_InvalidMoves_init, []⟩) rfl)
  · exact dec_ok (c.fact 18 (f := fun K => decide (PySem.W.typeIn K (.ref (He.ga K "InvalidMoves")) = some (.type "type"))) rfl)
  · exact He.eqO_ok (c.fact 19 (f := fun K => He.eqO (PySem.W.findIn K (.ref (He.ga K "InvalidMoves")) "position") (some none)) rfl)
  · exact giX (c.fact 20 (f := fun K => mkrB K "Ratio") rfl) (c.def_ 6 (d := ⟨fun K => He.ma K (He.ga K "Ratio") "__init__", "__init__", "Ratio.__init__", s_Ratio_init, [.int 1]⟩) rfl)
  · exact gsX (c.fact 21 (f := fun K => staB K "Ratio" "of") rfl) (c.def_ 7 (d := ⟨fun K => gsA K "Ratio" "of", "of", "Ratio.of", s_Ratio_of, []⟩) rfl)
  · exact gpX (c.fact 22 (f := fun K => prpB K "Ratio" "top") rfl) (c.def_ 8 (d := ⟨fun K => gpA K "Ratio" "top", "top", "Ratio.top", s_Ratio_top, []⟩) rfl)
  · exact gpX (c.fact 23 (f := fun K => prpB K "Ratio" "bottom") rfl) (c.def_ 9 (d := ⟨fun K => gpA K "Ratio" "bottom", "bottom", "Ratio.bottom", s_Ratio_bottom, []⟩) rfl)
  · exact gmX (c.fact 24 (f := fun K => metB K "Ratio" "over") rfl) (c.def_ 10 (d := ⟨fun K => He.ma K (He.ga K "Ratio") "over", "over", "Ratio.over", s_Ratio_over, []⟩) rfl)
  · exact gmX (c.fact 25 (f := fun K => metB K "Ratio" "__repr__") rfl) (c.def_ 11 (d := ⟨fun K => He.ma K (He.ga K "Ratio") "__repr__", "__repr__", "Ratio.__repr__", s_Ratio_repr, []⟩) rfl)
  · exact gfX X G (c.fact 26 (f := fun K => bloB K "is_amount") rfl) (c.def_ 12 (d := ⟨fun K => He.ga K "is_amount", "is_amount", "is_amount", s_is_amount, []⟩) rfl)
  · exact giX (c.fact 27 (f := fun K => mkrB K "Move") rfl) (c.def_ 13 (d := ⟨fun K => He.ma K (He.ga K "Move") "__init__", "__init__", "Move.__init__", s_Move_init, []⟩) rfl)
  · exact gpX (c.fact 28 (f := fun K => prpB K "Move" "task") rfl) (c.def_ 14 (d := ⟨fun K => gpA K "Move" "task", "task", "Move.task", s_Move_task, []⟩) rfl)
  · exact gpX (c.fact 29 (f := fun K => prpB K "Move" "start") rfl) (c.def_ 15 (d := ⟨fun K => gpA K "Move" "start", "start", "Move.start", s_Move_start, []⟩) rfl)
  · exact gpX (c.fact 30 (f := fun K => prpB K "Move" "goal") rfl) (c.def_ 16 (d := ⟨fun K => gpA K "Move" "goal", "goal", "Move.goal", s_Move_goal, []⟩) rfl)
  · exact gmX (c.fact 31 (f := fun K => metB K "Move" "__repr__") rfl) (c.def_ 17 (d := ⟨fun K => He.ma K (He.ga K "Move") "__repr__", "__repr__", "Move.__repr__", s_Move_repr, []⟩) rfl)
  · exact giX (c.fact 32 (f := fun K => mkrB K "Gift") rfl) (c.def_ 18 (d := ⟨fun K => He.ma K (He.ga K "Gift") "__init__", "__init__", "Gift.__init__", s_Gift_init, []⟩) rfl)
  · exact gsX (c.fact 33 (f := fun K => staB K "Gift" "single") rfl) (c.def_ 19 (d := ⟨fun K => gsA K "Gift" "single", "single", "Gift.single", s_Gift_single, []⟩) rfl)
  · exact gfX X G (c.fact 34 (f := fun K => bloB K "break_of") rfl) (c.def_ 20 (d := ⟨fun K => He.ga K "break_of", "break_of", "break_of", s_break_of, []⟩) rfl)
  · exact gfX X G (c.fact 35 (f := fun K => bloB K "check_gift_amount") rfl) (c.def_ 21 (d := ⟨fun K => He.ga K "check_gift_amount", "check_gift_amount", "check_gift_amount", s_check_gift_amount, []⟩) rfl)
  · exact gfX X G (c.fact 36 (f := fun K => bloB K "_law_pot") rfl) (c.def_ 22 (d := ⟨fun K => He.ga K "_law_pot", "_law_pot", "_law_pot", s_law_pot, []⟩) rfl)
  · exact gfX X G (c.fact 37 (f := fun K => bloB K "_law_draw") rfl) (c.def_ 23 (d := ⟨fun K => He.ga K "_law_draw", "_law_draw", "_law_draw", s_law_draw, []⟩) rfl)
  · exact gfX X G (c.fact 38 (f := fun K => bloB K "_law_pick") rfl) (c.def_ 24 (d := ⟨fun K => He.ga K "_law_pick", "_law_pick", "_law_pick", s_law_pick, []⟩) rfl)
  · exact gfX X G (c.fact 39 (f := fun K => bloB K "_law_named") rfl) (c.def_ 25 (d := ⟨fun K => He.ga K "_law_named", "_law_named", "_law_named", s_law_named, []⟩) rfl)
  · exact gfX X G (c.fact 40 (f := fun K => bloB K "_law_met") rfl) (c.def_ 26 (d := ⟨fun K => He.ga K "_law_met", "_law_met", "_law_met", s_law_met, []⟩) rfl)
  · exact gfX X G (c.fact 41 (f := fun K => bloB K "_law_odd_name") rfl) (c.def_ 27 (d := ⟨fun K => He.ga K "_law_odd_name", "_law_odd_name", "_law_odd_name", s_law_odd_name, []⟩) rfl)
  · exact gfX X G (c.fact 42 (f := fun K => bloB K "_law_odd_amount") rfl) (c.def_ 28 (d := ⟨fun K => He.ga K "_law_odd_amount", "_law_odd_amount", "_law_odd_amount", s_law_odd_amount, []⟩) rfl)
  · exact gfX X G (c.fact 43 (f := fun K => bloB K "_law_words") rfl) (c.def_ 29 (d := ⟨fun K => He.ga K "_law_words", "_law_words", "_law_words", s_law_words, []⟩) rfl)
  · exact gfX X G (c.fact 44 (f := fun K => bloB K "_law_is_named") rfl) (c.def_ 30 (d := ⟨fun K => He.ga K "_law_is_named", "_law_is_named", "_law_is_named", s_law_is_named, []⟩) rfl)
  · exact gfX X G (c.fact 45 (f := fun K => bloB K "_law_due") rfl) (c.def_ 31 (d := ⟨fun K => He.ga K "_law_due", "_law_due", "_law_due", s_law_due, []⟩) rfl)
  · exact gfX X G (c.fact 46 (f := fun K => bloB K "_law_broken") rfl) (c.def_ 32 (d := ⟨fun K => He.ga K "_law_broken", "_law_broken", "_law_broken", s_law_broken, []⟩) rfl)
  · exact gfX X G (c.fact 47 (f := fun K => bloB K "_law_right") rfl) (c.def_ 33 (d := ⟨fun K => He.ga K "_law_right", "_law_right", "_law_right", s_law_right, []⟩) rfl)
  · exact gfX X G (c.fact 48 (f := fun K => bloB K "law") rfl) (c.def_ 34 (d := ⟨fun K => He.ga K "law", "law", "law", s_law, []⟩) rfl)
  · exact freB_ok X G (c.fact 49 (f := fun K => freB K "abs") rfl)
  · exact freB_ok X G (c.fact 50 (f := fun K => freB K "len") rfl)
  · exact freB_ok X G (c.fact 51 (f := fun K => freB K "divmod") rfl)
  · exact freB_ok X G (c.fact 52 (f := fun K => freB K "max") rfl)
  · exact freB_ok X G (c.fact 53 (f := fun K => freB K "min") rfl)
  · exact freB_ok X G (c.fact 54 (f := fun K => freB K "all") rfl)
  · exact freB_ok X G (c.fact 55 (f := fun K => freB K "int") rfl)
  · exact freB_ok X G (c.fact 56 (f := fun K => freB K "str") rfl)
  · exact freB_ok X G (c.fact 57 (f := fun K => freB K "bool") rfl)
  · exact freB_ok X G (c.fact 58 (f := fun K => freB K "isinstance") rfl)
  · exact freB_ok X G (c.fact 59 (f := fun K => freB K "range") rfl)
  · exact freB_ok X G (c.fact 60 (f := fun K => freB K "repr") rfl)
  · exact freB_ok X G (c.fact 61 (f := fun K => freB K "enumerate") rfl)
  · exact biB_ok X G (c.fact 62 (f := fun K => biB K "gcd" "math.gcd") rfl)
  · exact dec_ok (c.fact 63 (f := fun K => decide (PySem.W.subIn K (.ref (He.ga K "Ratio")) (.type "str") = some false)) rfl)
  · exact bloB_ok X G (c.fact 64 (f := fun K => bloB K "LoadError") rfl)
  · exact gfcX X G (c.fact 65 (f := fun K => bloB K "_law_move_right") rfl) (ct _ (by simp [htb])) (c.def_ 35 (d := ⟨fun K => He.ga K "_law_move_right", "_law_move_right", "_law_move_right", s_law_move_right, []⟩) rfl)
  · exact gfcX X G (c.fact 66 (f := fun K => bloB K "_law_single_right") rfl) (ct _ (by simp [htb])) (c.def_ 36 (d := ⟨fun K => He.ga K "_law_single_right", "_law_single_right", "_law_single_right", s_law_single_right, []⟩) rfl)
  · exact gfcX X G (c.fact 67 (f := fun K => bloB K "_law_gift_right") rfl) (ct _ (by simp [htb])) (c.def_ 37 (d := ⟨fun K => He.ga K "_law_gift_right", "_law_gift_right", "_law_gift_right", s_law_gift_right, []⟩) rfl)
  · exact dec_ok (c.fact 68 (f := fun K => decide (PySem.W.exmOne K (.ref (He.ga K "InvalidName")) (.ref (He.ga K "InvalidName")) = some true)) rfl)
  · exact dec_ok (c.fact 69 (f := fun K => decide (PySem.W.kitOne K (.ref (He.ga K "InvalidName")) (.ref (He.ga K "LoadError")) = some true)) rfl)
  · exact dec_ok (c.fact 70 (f := fun K => decide (PySem.W.kitOne K (.ref (He.ga K "InvalidName")) (.type "ValueError") = some true)) rfl)
  · exact dec_ok (c.fact 71 (f := fun K => decide (PySem.W.exmOne K (.ref (He.ga K "InvalidNumber")) (.ref (He.ga K "InvalidName")) = some false)) rfl)
  · exact dec_ok (c.fact 72 (f := fun K => decide (PySem.W.exmOne K (.ref (He.ga K "InvalidNumber")) (.ref (He.ga K "InvalidNumber")) = some true)) rfl)
  · exact dec_ok (c.fact 73 (f := fun K => decide (PySem.W.kitOne K (.ref (He.ga K "InvalidNumber")) (.ref (He.ga K "LoadError")) = some true)) rfl)
  · exact dec_ok (c.fact 74 (f := fun K => decide (PySem.W.kitOne K (.ref (He.ga K "InvalidNumber")) (.type "ValueError") = some true)) rfl)
  · exact dec_ok (c.fact 75 (f := fun K => decide (PySem.W.exmOne K (.ref (He.ga K "InvalidMoves")) (.ref (He.ga K "InvalidName")) = some false)) rfl)
  · exact dec_ok (c.fact 76 (f := fun K => decide (PySem.W.exmOne K (.ref (He.ga K "InvalidMoves")) (.ref (He.ga K "InvalidNumber")) = some false)) rfl)
  · exact dec_ok (c.fact 77 (f := fun K => decide (PySem.W.exmOne K (.ref (He.ga K "InvalidMoves")) (.ref (He.ga K "InvalidMoves")) = some true)) rfl)
  · exact dec_ok (c.fact 78 (f := fun K => decide (PySem.W.kitOne K (.ref (He.ga K "InvalidMoves")) (.ref (He.ga K "LoadError")) = some true)) rfl)
  · exact dec_ok (c.fact 79 (f := fun K => decide (PySem.W.kitOne K (.ref (He.ga K "InvalidMoves")) (.type "ValueError") = some true)) rfl)
  · exact freB_ok X G (c.fact 80 (f := fun K => freB K "ValueError") rfl)
  · exact dec_ok (c.fact 81 (f := fun K => decide ((tcP K "_law_single_right").2 ≠ (tcP K "_law_move_right").2)) rfl)
  · exact dec_ok (c.fact 82 (f := fun K => decide ((tcP K "_law_gift_right").2 ≠ (tcP K "_law_move_right").2)) rfl)
  · exact dec_ok (c.fact 83 (f := fun K => decide ((tcP K "_law_gift_right").2 ≠ (tcP K "_law_single_right").2)) rfl)
  · exact kitXB_ok (c.fact 84 (f := fun K => kitXB K "Ratio" "bool") rfl)
  · exact kitXB_ok (c.fact 85 (f := fun K => kitXB K "Ratio" "NoneType") rfl)
  · exact kitXB_ok (c.fact 86 (f := fun K => kitXB K "Ratio" "str") rfl)
  · exact kitXB_ok (c.fact 87 (f := fun K => kitXB K "Ratio" "tuple") rfl)
  · exact kitXB_ok (c.fact 88 (f := fun K => kitXB K "Ratio" "list") rfl)
  · exact kitXB_ok (c.fact 89 (f := fun K => kitXB K "Ratio" "dict") rfl)
  · exact kitXB_ok (c.fact 90 (f := fun K => kitXB K "Move" "int") rfl)
  · exact kitXB_ok (c.fact 91 (f := fun K => kitXB K "Move" "bool") rfl)
  · exact kitXB_ok (c.fact 92 (f := fun K => kitXB K "Move" "NoneType") rfl)
  · exact kitXB_ok (c.fact 93 (f := fun K => kitXB K "Move" "str") rfl)
  · exact kitXB_ok (c.fact 94 (f := fun K => kitXB K "Move" "tuple") rfl)
  · exact kitXB_ok (c.fact 95 (f := fun K => kitXB K "Move" "list") rfl)
  · exact dec_ok (c.fact 96 (f := fun K => decide (PySem.W.kitOne K (.ref (He.ga K "Move")) (.ref (He.ga K "Ratio")) = some false)) rfl)
  · exact dec_ok (c.fact 97 (f := fun K => decide (PySem.W.kitOne K (.ref (He.ga K "Ratio")) (.ref (He.ga K "Move")) = some false)) rfl)
end Lw
open PySem PySem.W PySem.Calls PyProof.Rows
set_option maxRecDepth 100000 in
set_option maxHeartbeats 0 in
theorem PySem.Challenge.cw_evenloads_k15_moves_and_gifts_refused_holds : PySem.Challenge.rw_evenloads_k15_moves_and_gifts_refused.Holds := by
  w_on; o_law
  refine HandSHeadRun.head_imp (r := OpenLaw.row PySem.Challenge.rw_evenloads_k15_moves_and_gifts_refused) (q := Lw.hq) (H := Ly.hookY Lw.hfa Lw.hfn Lw.htb) (ob := Lw.hob) (M := 16022) (loose := Lw.hnames) (d := HandSHeadRun.topDef (OpenLaw.row PySem.Challenge.rw_evenloads_k15_moves_and_gifts_refused).prog 40) (kwd := []) Lw.hob_eq Lw.hrun
    (by kernel_rfl) (by kernel_rfl) (by kernel_rfl) (by rfl) (by first | assumption | decide +kernel) (by decide +kernel) ⟨rfl, rfl, rfl, rfl, rfl, by decide +kernel⟩ ?hw ?hc
  case hw => w_witness2
  case hc =>
    refine Ly.walk_ofY (l := PySem.Challenge.rw_evenloads_k15_moves_and_gifts_refused) (n := 63) (k := 40) (x := "_law_script") rfl (by decide) (by kernel_rfl) ⟨rfl, by decide, by decide⟩ ?F
    intro w mg fa h Y G hmg0
    obtain ⟨K, KX, c, ct⟩ := Y
    have hmg : mg ("law" : PySem.Str) = some (.ref fa) := by
      have e : (HandSHeadRun.topDef (OpenLaw.row PySem.Challenge.rw_evenloads_k15_moves_and_gifts_refused).prog 40).name = ("law" : PySem.Str) := by kernel_rfl
      rw [← e]
      exact hmg0
    have T := Lw.txt_of KX G c ct
    obtain ⟨fd, hb, hF⟩ := Lw.fin (l := PySem.Challenge.rw_evenloads_k15_moves_and_gifts_refused) (w := w) KX G hmg T
    have z0 := ct _ (List.Mem.head _)
    have z1 := ct _ (List.Mem.tail _ (List.Mem.head _))
    have z2 := ct _ (List.Mem.tail _ (List.Mem.tail _ (List.Mem.head _)))
    refine ⟨K, fd, [((Ly.tcP K "_law_move_right").1, (Ly.tcP K "_law_move_right").2), ((Ly.tcP K "_law_single_right").1, (Ly.tcP K "_law_single_right").2), ((Ly.tcP K "_law_gift_right").1, (Ly.tcP K "_law_gift_right").2)], Lw.spLaw K [(Ly.tcP K "_law_move_right").2, (Ly.tcP K "_law_single_right").2, (Ly.tcP K "_law_gift_right").2], KX, fun p hp => ?_, hb, fun H a ns hl hH hS => ⟨a, ns, rfl, hS, hl, fun t ht => ?_, fun _ => rfl⟩, hF⟩
    · simp only [List.mem_cons, List.not_mem_nil, or_false] at hp
      rcases hp with rfl | rfl | rfl
      · exact ⟨z0.emp, z0.out, PySem.W.codeHd_of_K KX z0.hd⟩
      · exact ⟨z1.emp, z1.out, PySem.W.codeHd_of_K KX z1.hd⟩
      · exact ⟨z2.emp, z2.out, PySem.W.codeHd_of_K KX z2.hd⟩
    · simp only [List.mem_cons, List.not_mem_nil, or_false] at ht
      rcases ht with rfl | rfl | rfl
      · exact hH _ (List.Mem.head _)
      · exact hH _ (List.Mem.tail _ (List.Mem.head _))
      · exact hH _ (List.Mem.tail _ (List.Mem.tail _ (List.Mem.head _)))
