import PyProof.Rows.All
import Wide.All
import OpenK.AllK
import Wide.FinOn
import KE.KStateDown
import HandS.Ends
import HandS.Words
import HandS.Head0
import HandS.Head1
import HandS.Head2
import HandS.Head3
import HandS.HeadHook1
import HandS.HeadHook2
import HandS.ClsMeth
import HandS.Property
import HandS.ForMost
import HandS.Wide
import HandS.WideBits
import HandS.Defaults
import HandS.Gcd
import HandS.FStr
import HandS.StrMore
import HandS.IsInst
import KE.KOpsOwn
import HandS.OwnEq
import PyProof.Rows.Range3
import HandS.MakeKwOnly
import HandS.Evl
import HandS.Text
import HandS.Iter
import HandS.DictComp
import HandS.Walk
import HandS.TupLe
import HandS.SortRule
import HandS.More
import HandS.ExcInit
import KE.KExcInit
import PyProof.ExcBaseAll.ValueError
import PyProof.ExcBaseAll.LookupError
import PyProof.ExcBaseAll.RuntimeError
import PyProof.ExcBaseAll.ArithmeticError
import KE.KExcIs
import HandS.DeepEq
import PyProof.ReprNest
import OpenK.KOps
import HandS.Strs
import HandS.DictEq
import HandS.WordsDict
import HandS.RaiseMore
import KE.KMathG
import PyProof.StrLawsRepr
import PyProof.ReprLen
import PySem.Challenge.RW_evenloads_k23_sets_of_servers
set_option Elab.async false
set_option linter.all false
set_option maxRecDepth 100000
set_option maxHeartbeats 4000000
set_option exponentiation.threshold 256
namespace Ly
open PySem PySem.Spec PyProof.Rows L2
def nextX (g : Addr → Option Obj) (as : List Addr) : List Addr := as.flatMap fun a => match g a with
  | some o => (match o.data with
    | .cls cd => [cd.ns]
    | .func fd => He.refV fd.code ++ He.refV fd.defaults
    | .dict es _ => es.toList.flatMap fun e => He.refV e.val
    | .fields vs => vs.toList.flatMap He.refV
    | _ => [])
  | none => []
def lvX (g : Addr → Option Obj) : Nat → List Addr → List Addr
  | 0, as => as
  | n + 1, as => as ++ lvX g n (nextX g as)
def asX (g : Addr → Option Obj) : List Addr := cStatics :: lvX g 5 [mainGlobals]
structure DfX where
  ad : PySem.W.Frag → Addr
  name : Str
  qual : Str
  st : Stmt
  dfl : List He.Dv
def DfX.look (d : DfX) (K : PySem.W.Frag) : He.FnW := match K.lookup (d.ad K) with
  | some ⟨_, _, .func fd, _⟩ => some (fd.name, fd.qualname, fd.params, fd.body, fd.scope, fd.globals, fd.closure, fd.builtins)
  | _ => none
def DfX.val (d : DfX) : He.FnW := some (d.name, d.qual, defArgs d.st, .stmts (defBody d.st), defScope d.st, mainGlobals, [], builtinsNs)
def DfX.dvs (d : DfX) (K : PySem.W.Frag) : List V := d.dfl.map (He.Dv.v K)
def DfX.ok (d : DfX) (K : PySem.W.Frag) : Bool := PySem.W.keepIn K (.ref (d.ad K)) && (match K.lookup (d.ad K) with
  | some ⟨_, _, .func fd, _⟩ => PySem.W.codeIn K fd.code d.qual && He.dflB K fd.defaults (d.dvs K)
  | _ => false)
abbrev AlX : Type := Bool × List He.FnW
def obsK (fa : List (PySem.W.Frag → Bool)) (fn : List DfX) (K : PySem.W.Frag) : AlX := ((fa.all fun f => f K) && fn.all fun d => d.ok K, fn.map fun d => d.look K)
def valX (fn : List DfX) : AlX := (true, fn.map DfX.val)
def SaysX (fa : List (PySem.W.Frag → Bool)) (fn : List DfX) (K : PySem.W.Frag) : Prop := obsK fa fn K = valX fn
def obsX (fa : List (PySem.W.Frag → Bool)) (fn : List DfX) (g : Addr → Option Obj) : AlX := obsK fa fn (He.frG g (asX g))
def hookX (fa : List (PySem.W.Frag → Bool)) (fn : List DfX) : PySem.W.Hook where
  α := AlX
  obs := fun s => obsX fa fn s.heap.get?
  val := fun _ => valX fn
  says := fun _ h => ∃ K : PySem.W.Frag, K.In h ∧ SaysX fa fn K
  of := fun _ _ e => ⟨_, He.frG_in, e⟩
  keeps := fun _ _ _ ⟨K, hK, c⟩ k => ⟨K, PySem.W.Frag.In.keeps hK k, c⟩
theorem obsX_eq {fa : List (PySem.W.Frag → Bool)} {fn : List DfX} {g : Addr → Option Obj} {s : Shared} (h : ∀ a, g a = s.heap.get? a) : obsX fa fn g = (hookX fa fn).obs s := by
  obtain rfl : g = s.heap.get? := funext h
  rfl
section
variable (K : PySem.W.Frag)
def rcA (p : Addr) (T : String) : Addr := match PySem.W.recIn K p T with
  | some (.ref f :: _) => f
  | _ => 0
def rcB (p : Addr) (T : String) : Bool := match PySem.W.recIn K p T with
  | some (.ref _ :: _) => true
  | _ => false
def gpA (C m : Str) : Addr := rcA K (He.ma K (He.ga K C) m) "property"
def stA (C m : Str) : Addr := match PySem.W.findCls K (.ref (He.ga K C)) (.type "type") m with
  | some (.get _ (.ref p) _ _) => p
  | _ => 0
def gsA (C m : Str) : Addr := rcA K (stA K C m) "staticmethod"
def bloB (x : Str) : Bool := He.eqO (PySem.W.nsIn K mainGlobals x) (some (some (.ref (He.ga K x))))
def freB (x : Str) : Bool := He.eqO (PySem.W.nsIn K mainGlobals x) (some none)
def biB (x : Str) (b : String) : Bool := He.eqO (PySem.W.nsIn K mainGlobals x) (some (some (.builtin b)))
def ownB (x : Str) : Bool := bloB K x && ((He.Fa.cls x).ok K && (PySem.W.keepIn K (.ref (He.ga K x)) && (PySem.W.selfFirst K (He.ga K x) && (((PySem.W.clsIn K (He.ga K x)).any fun cd => cd.mro == [.ref (He.ga K x), .type "object"]) &&
  (decide (PySem.W.subIn K (.type "int") (.ref (He.ga K x)) = some false) && (decide (PySem.W.subIn K (.ref (He.ga K x)) (.type "int") = some false) && (decide (PySem.W.subIn K (.ref (He.ga K x)) (.type "object") = some true) &&
  (PySem.W.notFirst K (He.ga K x) (.type "int") && (decide (PySem.W.typeIn K (.ref (He.ga K x)) = some (.type "type")) && (He.eqO (PySem.W.findIn K (.ref (He.ga K x)) "__class__") (some (some (.builtin "object.__class__"))) &&
  decide (PySem.W.mroIn K (He.ga K x) (.type "object") = some true)))))))))))
def noaB (x f : Str) : Bool := He.eqO (PySem.W.findIn K (.ref (He.ga K x)) f) (some none)
def metB (x m : Str) : Bool := (He.Fa.meth x m).ok K
def mkrB (x : Str) : Bool := (He.Fa.mkr x).ok K
def prpB (x m : Str) : Bool := He.eqO (PySem.W.findIn K (.ref (He.ga K x)) m) (some (some (.ref (He.ma K (He.ga K x) m)))) && (He.eqO (PySem.W.specialIn K (.ref (He.ma K (He.ga K x) m)) "__get__") (some (some (.builtin "property.__get__"))) &&
  (decide (PySem.W.takesIn K (.ref (He.ma K (He.ga K x) m)) = some true) && rcB K (He.ma K (He.ga K x) m) "property"))
def rdB (x : Str) : Bool := PySem.W.readsIn K (He.ga K x) (.type "type") && He.eqO (PySem.W.specialIn K (.ref (He.ga K x)) "__getattribute__") (some (some (.builtin "type.__getattribute__")))
def staB (x m : Str) : Bool := rdB K x && ((match PySem.W.findCls K (.ref (He.ga K x)) (.type "type") m with
  | some (.get (.builtin b) (.ref _) .none (.ref c)) => decide (b = "staticmethod.__get__") && decide (c = He.ga K x)
  | _ => false) && rcB K (stA K x m) "staticmethod")
def cvB (x m : Str) (i : Int) : Bool := rdB K x && (match PySem.W.findCls K (.ref (He.ga K x)) (.type "type") m with
  | some (.val (.int j _)) => decide (j = i)
  | _ => false)
end
end Ly
namespace Lw
open PySem PySem.Spec PyProof.Rows L2 Ly
def top (i : Nat) : Stmt := PySem.Challenge.pw_evenloads_k23_sets_of_servers.main.body.getD i (.Pass ⟨0, 0, 0, 0⟩)
abbrev s_is_integer : Stmt := top 3
abbrev s_is_count : Stmt := top 4
abbrev s_is_name : Stmt := top 5
abbrev s_sorted_names : Stmt := top 6
abbrev s_Ratio_init : Stmt := inClass (top 25) 0
abbrev s_Ratio_of : Stmt := inClass (top 25) 1
abbrev s_Ratio_top : Stmt := inClass (top 25) 3
abbrev s_Ratio_bottom : Stmt := inClass (top 25) 4
abbrev s_Ratio_over : Stmt := inClass (top 25) 17
abbrev s_Ratio_eq : Stmt := inClass (top 25) 21
abbrev s_Ratio_repr : Stmt := inClass (top 25) 23
abbrev s_is_amount : Stmt := top 29
abbrev s_sum_of : Stmt := top 30
abbrev s_common_bottom : Stmt := top 31
abbrev s_Yard_init : Stmt := inClass (top 33) 3
abbrev s_Yard_servers : Stmt := inClass (top 33) 5
abbrev s_Yard_tasks : Stmt := inClass (top 33) 6
abbrev s_Yard_total : Stmt := inClass (top 33) 10
abbrev s_Yard_eq : Stmt := inClass (top 33) 14
abbrev s_Yard_confined : Stmt := inClass (top 33) 15
abbrev s_Yard_weight : Stmt := inClass (top 33) 16
abbrev s_Yard_speed_of : Stmt := inClass (top 33) 17
abbrev s_Yard_density : Stmt := inClass (top 33) 18
abbrev s_Yard_check_set : Stmt := inClass (top 33) 32
abbrev s_is_speed : Stmt := top 34
abbrev s_is_set_of : Stmt := top 35
abbrev s_is_task : Stmt := top 36
abbrev s_is_name_dict : Stmt := top 38
abbrev s_check_speeds : Stmt := top 39
abbrev s_check_tasks : Stmt := top 40
abbrev s_law_pot : Stmt := top 42
abbrev s_law_draw : Stmt := top 43
abbrev s_law_pick : Stmt := top 44
abbrev s_law_mixed : Stmt := top 45
abbrev s_law_named : Stmt := top 46
abbrev s_law_frac : Stmt := top 47
abbrev s_law_sum : Stmt := top 48
abbrev s_law_times : Stmt := top 49
abbrev s_law_number : Stmt := top 50
abbrev s_law_some : Stmt := top 51
abbrev s_law_any : Stmt := top 52
abbrev s_law_sets : Stmt := top 53
abbrev s_law_is_within : Stmt := top 54
abbrev s_law_weight : Stmt := top 55
abbrev s_law_rate : Stmt := top 56
abbrev s_law_yard : Stmt := top 57
abbrev s_law_due : Stmt := top 58
abbrev s_law_part_right : Stmt := top 59
abbrev s_law_right : Stmt := top 60
abbrev s_law : Stmt := top 61
def hfa0 : List (PySem.W.Frag → Bool) := [fun K => ownB K "Ratio", fun K => noaB K "Ratio" "_top", fun K => noaB K "Ratio" "_bottom", fun K => ownB K "Yard", fun K => noaB K "Yard" "_speeds", fun K => noaB K "Yard" "_works", fun K => noaB K "Yard" "_places", fun K => noaB K "Yard" "_pairs", fun K => bloB K "is_integer", fun K => bloB K "is_count", fun K => bloB K "is_name", fun K => bloB K "sorted_names", fun K => mkrB K "Ratio", fun K => staB K "Ratio" "of", fun K => prpB K "Ratio" "top", fun K => prpB K "Ratio" "bottom", fun K => metB K "Ratio" "over", fun K => metB K "Ratio" "__eq__", fun K => metB K "Ratio" "__repr__", fun K => bloB K "is_amount"]
def hfa1 : List (PySem.W.Frag → Bool) := [fun K => bloB K "sum_of", fun K => bloB K "common_bottom", fun K => mkrB K "Yard", fun K => metB K "Yard" "servers", fun K => metB K "Yard" "tasks", fun K => prpB K "Yard" "total", fun K => metB K "Yard" "__eq__", fun K => metB K "Yard" "confined", fun K => metB K "Yard" "weight", fun K => metB K "Yard" "speed_of", fun K => metB K "Yard" "density", fun K => metB K "Yard" "_check_set", fun K => bloB K "is_speed", fun K => bloB K "is_set_of", fun K => bloB K "is_task", fun K => bloB K "is_name_dict", fun K => bloB K "check_speeds", fun K => bloB K "check_tasks", fun K => bloB K "_law_pot", fun K => bloB K "_law_draw"]
def hfa2 : List (PySem.W.Frag → Bool) := [fun K => bloB K "_law_pick", fun K => bloB K "_law_mixed", fun K => bloB K "_law_named", fun K => bloB K "_law_frac", fun K => bloB K "_law_sum", fun K => bloB K "_law_times", fun K => bloB K "_law_number", fun K => bloB K "_law_some", fun K => bloB K "_law_any", fun K => bloB K "_law_sets", fun K => bloB K "_law_is_within", fun K => bloB K "_law_weight", fun K => bloB K "_law_rate", fun K => bloB K "_law_yard", fun K => bloB K "_law_due", fun K => bloB K "_law_part_right", fun K => bloB K "_law_right", fun K => bloB K "law", fun K => freB K "abs", fun K => freB K "len"]
def hfa3 : List (PySem.W.Frag → Bool) := [fun K => freB K "divmod", fun K => freB K "max", fun K => freB K "min", fun K => freB K "all", fun K => freB K "int", fun K => freB K "str", fun K => freB K "bool", fun K => freB K "isinstance", fun K => freB K "range", fun K => freB K "repr", fun K => freB K "list", fun K => freB K "tuple", fun K => freB K "dict", fun K => freB K "sorted", fun K => freB K "zip", fun K => freB K "sum", fun K => freB K "set", fun K => biB K "gcd" "math.gcd", fun K => biB K "lcm" "math.lcm", fun K => cvB K "Yard" "MOST_SPEED" 1000]
def hfa4 : List (PySem.W.Frag → Bool) := [fun K => cvB K "Yard" "MOST_SERVERS" 12, fun K => cvB K "Yard" "MOST_TASKS" 24]
def hfa : List (PySem.W.Frag → Bool) := hfa0 ++ hfa1 ++ hfa2 ++ hfa3 ++ hfa4
def hfn0 : List DfX := [⟨fun K => He.ga K "is_integer", "is_integer", "is_integer", s_is_integer, []⟩, ⟨fun K => He.ga K "is_count", "is_count", "is_count", s_is_count, []⟩, ⟨fun K => He.ga K "is_name", "is_name", "is_name", s_is_name, []⟩, ⟨fun K => He.ga K "sorted_names", "sorted_names", "sorted_names", s_sorted_names, []⟩, ⟨fun K => He.ma K (He.ga K "Ratio") "__init__", "__init__", "Ratio.__init__", s_Ratio_init, [.int 1]⟩, ⟨fun K => gsA K "Ratio" "of", "of", "Ratio.of", s_Ratio_of, []⟩, ⟨fun K => gpA K "Ratio" "top", "top", "Ratio.top", s_Ratio_top, []⟩, ⟨fun K => gpA K "Ratio" "bottom", "bottom", "Ratio.bottom", s_Ratio_bottom, []⟩, ⟨fun K => He.ma K (He.ga K "Ratio") "over", "over", "Ratio.over", s_Ratio_over, []⟩, ⟨fun K => He.ma K (He.ga K "Ratio") "__eq__", "__eq__", "Ratio.__eq__", s_Ratio_eq, []⟩, ⟨fun K => He.ma K (He.ga K "Ratio") "__repr__", "__repr__", "Ratio.__repr__", s_Ratio_repr, []⟩, ⟨fun K => He.ga K "is_amount", "is_amount", "is_amount", s_is_amount, []⟩, ⟨fun K => He.ga K "sum_of", "sum_of", "sum_of", s_sum_of, []⟩, ⟨fun K => He.ga K "common_bottom", "common_bottom", "common_bottom", s_common_bottom, []⟩, ⟨fun K => He.ma K (He.ga K "Yard") "__init__", "__init__", "Yard.__init__", s_Yard_init, [.non]⟩, ⟨fun K => He.ma K (He.ga K "Yard") "servers", "servers", "Yard.servers", s_Yard_servers, []⟩, ⟨fun K => He.ma K (He.ga K "Yard") "tasks", "tasks", "Yard.tasks", s_Yard_tasks, []⟩, ⟨fun K => gpA K "Yard" "total", "total", "Yard.total", s_Yard_total, []⟩, ⟨fun K => He.ma K (He.ga K "Yard") "__eq__", "__eq__", "Yard.__eq__", s_Yard_eq, []⟩, ⟨fun K => He.ma K (He.ga K "Yard") "confined", "confined", "Yard.confined", s_Yard_confined, []⟩]
def hfn1 : List DfX := [⟨fun K => He.ma K (He.ga K "Yard") "weight", "weight", "Yard.weight", s_Yard_weight, []⟩, ⟨fun K => He.ma K (He.ga K "Yard") "speed_of", "speed_of", "Yard.speed_of", s_Yard_speed_of, []⟩, ⟨fun K => He.ma K (He.ga K "Yard") "density", "density", "Yard.density", s_Yard_density, []⟩, ⟨fun K => He.ma K (He.ga K "Yard") "_check_set", "_check_set", "Yard._check_set", s_Yard_check_set, []⟩, ⟨fun K => He.ga K "is_speed", "is_speed", "is_speed", s_is_speed, []⟩, ⟨fun K => He.ga K "is_set_of", "is_set_of", "is_set_of", s_is_set_of, []⟩, ⟨fun K => He.ga K "is_task", "is_task", "is_task", s_is_task, []⟩, ⟨fun K => He.ga K "is_name_dict", "is_name_dict", "is_name_dict", s_is_name_dict, []⟩, ⟨fun K => He.ga K "check_speeds", "check_speeds", "check_speeds", s_check_speeds, []⟩, ⟨fun K => He.ga K "check_tasks", "check_tasks", "check_tasks", s_check_tasks, []⟩, ⟨fun K => He.ga K "_law_pot", "_law_pot", "_law_pot", s_law_pot, []⟩, ⟨fun K => He.ga K "_law_draw", "_law_draw", "_law_draw", s_law_draw, []⟩, ⟨fun K => He.ga K "_law_pick", "_law_pick", "_law_pick", s_law_pick, []⟩, ⟨fun K => He.ga K "_law_mixed", "_law_mixed", "_law_mixed", s_law_mixed, []⟩, ⟨fun K => He.ga K "_law_named", "_law_named", "_law_named", s_law_named, []⟩, ⟨fun K => He.ga K "_law_frac", "_law_frac", "_law_frac", s_law_frac, []⟩, ⟨fun K => He.ga K "_law_sum", "_law_sum", "_law_sum", s_law_sum, []⟩, ⟨fun K => He.ga K "_law_times", "_law_times", "_law_times", s_law_times, []⟩, ⟨fun K => He.ga K "_law_number", "_law_number", "_law_number", s_law_number, []⟩, ⟨fun K => He.ga K "_law_some", "_law_some", "_law_some", s_law_some, []⟩]
def hfn2 : List DfX := [⟨fun K => He.ga K "_law_any", "_law_any", "_law_any", s_law_any, []⟩, ⟨fun K => He.ga K "_law_sets", "_law_sets", "_law_sets", s_law_sets, []⟩, ⟨fun K => He.ga K "_law_is_within", "_law_is_within", "_law_is_within", s_law_is_within, []⟩, ⟨fun K => He.ga K "_law_weight", "_law_weight", "_law_weight", s_law_weight, []⟩, ⟨fun K => He.ga K "_law_rate", "_law_rate", "_law_rate", s_law_rate, []⟩, ⟨fun K => He.ga K "_law_yard", "_law_yard", "_law_yard", s_law_yard, []⟩, ⟨fun K => He.ga K "_law_due", "_law_due", "_law_due", s_law_due, []⟩, ⟨fun K => He.ga K "_law_part_right", "_law_part_right", "_law_part_right", s_law_part_right, []⟩, ⟨fun K => He.ga K "_law_right", "_law_right", "_law_right", s_law_right, []⟩, ⟨fun K => He.ga K "law", "law", "law", s_law, []⟩]
def hfn : List DfX := hfn0 ++ hfn1 ++ hfn2
abbrev HR : PySem.W.OpenRow := PySem.W.OpenLaw.row PySem.Challenge.rw_evenloads_k23_sets_of_servers
abbrev hq : Program := PySem.W.view HR.prog [0, 61]
def hnames0 : List Str := ["_wall", "is_integer", "is_count", "is_name", "sorted_names", "LoadError", "InvalidNumber", "InvalidServers", "InvalidSpeed", "InvalidTasks", "InvalidTask", "InvalidYard", "MissingError", "UnknownServer", "UnknownTask", "StateError", "TaskTaken", "OtherServers", "LimitError", "DividedByZero", "TooMany", "Ratio", "written", "loosely_read", "is_plain_count", "is_amount", "sum_of", "common_bottom", "Yard", "is_speed"]
def hnames1 : List Str := ["is_set_of", "is_task", "is_named_task", "is_name_dict", "check_speeds", "check_tasks", "_law_pot", "_law_draw", "_law_pick", "_law_mixed", "_law_named", "_law_frac", "_law_sum", "_law_times", "_law_number", "_law_some", "_law_any", "_law_sets", "_law_is_within", "_law_weight", "_law_rate", "_law_yard", "_law_due", "_law_part_right", "_law_right"]
def hnames : List Str := hnames0 ++ hnames1
def hob (s : PySem.W.SharedT) : AlX := obsX hfa hfn (HandSHeadRun.getT s)
theorem hob_eq (s : PySem.W.SharedT) : hob s = (hookX hfa hfn).obs s.abs := obsX_eq (HandSHeadRun.getT_eq s)
set_option maxHeartbeats 0 in
theorem hrun (w : World) : HandSHeadRun.RunEqI HR hq (hookX hfa hfn) hob 16022 hnames w := by
  unfold HandSHeadRun.RunEqI
  kernel_rfl
end Lw
namespace Ly
open PySem PySem.Spec PyProof.Rows L2
/-- where all stands -/
structure Wd where
  P : Program
  w : World
  K : PySem.W.Frag
  mg : Str → Option Value
  base : Heap
/-- a def of the module, without defaults, as it stands behind the top -/
structure GF (K : PySem.W.Frag) (mg : Str → Option Value) (x : Str) (st : Stmt) : Prop where
  ex : ∃ (f : Addr) (fd : FuncData), L2.Fun K x x st f fd ∧ mg x = some (.ref f)
/-- a def that may be called by its name -/
structure Cl (W : Wd) (k : Nat) (x : Str) (sp : Sp) : Prop where
  ex : ∃ (f : Addr) (fd : FuncData) (ps : List Str), FnOk W.P W.w W.K W.mg W.base CX0 k f fd ps sp ∧ W.mg x = some (.ref f) ∧ PySem.W.keepIn W.K (.ref f) = true ∧ Binds W.K fd ps []
theorem Cl.mono {W : Wd} {j k : Nat} {x : Str} {sp : Sp} (c : Cl W j x sp) (h : j ≤ k) : Cl W k x sp := by
  obtain ⟨f, fd, ps, F, a, b, d⟩ := c.ex
  exact ⟨f, fd, ps, F.mono h, a, b, d⟩
theorem Cl.imp {W : Wd} {k : Nat} {x : Str} {sp sp' : Sp} (c : Cl W k x sp) (h : ∀ vs H Q E, sp' vs H Q E → sp vs H Q E) : Cl W k x sp' := by
  obtain ⟨f, fd, ps, F, a, b, d⟩ := c.ex
  exact ⟨f, fd, ps, F.imp h, a, b, d⟩
theorem cl_of {W : Wd} {k : Nat} {x : Str} {st : Stmt} {N ps : List Str} {sp : Sp} (g : GF W.K W.mg x st) (S : FnScope N ps (defScope st))
    (hb : ∀ (kV doc pm : Value) (an : Option Addr) (cdv ct : Value) (us : List Value), us.length = ps.length → bindArgs (PySem.W.fnOf x x (defArgs st) (defBody st) (defScope st) .none kV doc pm an cdv ct) ⟨us, []⟩ = pure (ps.zip us))
    (len : ∀ vs H Q E, sp vs H Q E → vs.length = ps.length)
    (hbody : ∀ (f : Addr) (cdv : Value) (A : Around) (outer : List Env) (s : Shared) (H : Hp) (vs : List V) (Q : VK) (E : XK), Room k (A.deeper (envOfC x (defScope st) s.heap.objs.size f cdv)) → sp vs H Q E →
      ∃ t, PSs (cxOf CX0 W.P W.w W.K W.mg W.base N x (defScope st) f cdv A outer s H E).nox (defBody st) t ∧ t { nx := fun _ H' => Q .non H', rt := Q } (start N vs) H) : Cl W (k + 1) x sp := by
  obtain ⟨f, fd, F, hm⟩ := g.ex
  exact ⟨f, fd, ps, F.ok S len (fun cdv A outer s H vs Q E => hbody f cdv A outer s H vs Q E), hm, F.kp, F.binds hb⟩
section
variable {X : Cx} {k j : Nat} {x : Str} {sp : Sp} {p pos : Pos} {e : Expr} {es : List Expr} {t : TA}
theorem pe_cl (c : Cl ⟨X.prog, X.w, X.K, X.mg, X.base⟩ k x sp) (hr : Room j X.A) (hk : k ≤ j) (hg : Gl X x) (ha : PA X (e :: es) t)
    (hdb : (x == ("__debug__" : Str)) = false := by decide) (he : starEach (e :: es) X.env = (false, eval e X.env) :: starEach es X.env := by rfl) (hpl : (backTo pos (starEach es X.env)).any (·.1) = false := by rfl) :
    PE X (.Call (.Name x p) (e :: es) [] pos) (tCall sp [] E0 t) := by
  obtain ⟨f, fd, ps, F, hm, kp, b⟩ := c.ex
  exact pe_call F (hr.mono hk) hg hm kp b .nil pass0 ha hdb he hpl
end
section
variable {σ : L2.St} {H : Hp} {Q : VK} {K : PySem.W.Frag} {v x y : V} {ta tb te : TE} {t u : TA} {i j : Int} {D : Ends}
theorem i_var {n : Nat} (h : σ[n]? = some (some v)) (q : Q v H) : tVar n σ H Q := ⟨v, h, q⟩
theorem i_c (q : Q v H) : tC v σ H Q := q
theorem i_op {r : R2} (q : ta σ H fun x H1 => tb σ H1 fun y H2 => r x y H2 Q) : tOp r ta tb σ H Q := q
theorem i_un {r : V → Hp → VK → Prop} (q : ta σ H fun x H1 => r x H1 Q) : tUn r ta σ H Q := q
theorem i_I0 {g : Int → Int → V} (q : Q (g i j) H) : rI0 g (.int i) (.int j) H Q := ⟨i, j, rfl, rfl, q⟩
theorem i_I {C : Int → Int → Prop} {g : Int → Int → V} (c : C i j) (q : Q (g i j) H) : rI C g (.int i) (.int j) H Q := ⟨i, j, rfl, rfl, c, q⟩
theorem i_U {g : Int → V} (q : Q (g i) H) : rU g (.int i) H Q := ⟨i, rfl, q⟩
theorem i_nil {Q : List V → Hp → Prop} (q : Q [] H) : tNil σ H Q := q
theorem i_cons {Q : List V → Hp → Prop} (q : ta σ H fun x H1 => t σ H1 fun xs H2 => Q (x :: xs) H2) : tCons ta t σ H Q := q
theorem i_cb {r : List V → Hp → VK → Prop} (q : t σ H fun vs H1 => r vs H1 Q) : tCB r t σ H Q := q
theorem i_call {sp : Sp} {E : XK} (q : t σ H fun vs H1 => sp vs H1 Q E) : tCall sp [] E t σ H Q := by
  unfold tCall
  simpa only [List.append_nil] using q
theorem i_ret {te : TE} (q : te σ H D.rt) : tRet te D σ H := q
theorem i_seq {t u : TS} (q : t { D with nx := u D } σ H) : tSeq t u D σ H := q
theorem i_next (q : D.nx σ H) : tNext D σ H := q
theorem i_asg {g : TG} (q : te σ H fun x H1 => g x σ H1 D.nx) : tAsg te g D σ H := q
theorem i_gname {n : Nat} {Q : L2.St → Hp → Prop} (q : Q (σ.set n (some v)) H) : gName n v σ H Q := q
theorem i_if {c : TT} {t u : TS} (q : c σ H fun b H1 => if b = true then t D σ H1 else u D σ H1) : tIfS c t u D σ H := q
theorem i_dec {p A B : Prop} [Decidable p] (h1 : p → A) (h2 : ¬ p → B) : if decide p = true then A else B := by
  by_cases h : p
  · rw [if_pos (decide_eq_true h)]
    exact h1 h
  · rw [if_neg (by rw [decide_eq_false h]; exact Bool.false_ne_true)]
    exact h2 h
theorem i_start {t : TS} {σ' : L2.St} (e : σ = σ') (h : t D σ' H) : t D σ H := by
  rw [e]
  exact h
theorem i_test {te : TE} {Q : Bool → Hp → Prop} (q : te σ H fun x H1 => ∃ k, x = .bl k ∧ Q k H1) : tTest te σ H Q := q
theorem i_gsub {to ti : TE} {s : TSet} {Q : L2.St → Hp → Prop} (q : to σ H fun o H1 => ti σ H1 fun i H2 => s o i v H2 fun H3 => Q σ H3) : gSub to ti s v σ H Q := q
end
end Ly
namespace Ly
open PySem PySem.Spec PyProof.Rows L2
def rInt1 : List V → Hp → VK → Prop := fun xs H Q => (∃ i, xs = [.int i] ∧ Q (.int i) H) ∨ ∃ k, xs = [.bl k] ∧ Q (.int (if k then 1 else 0)) H
theorem call_int1U {X : Cx} : CallR X (.type "int") rInt1 := call_int1
theorem i_int {H : Hp} {Q : VK} {i : Int} (q : Q (.int i) H) : rInt1 [.int i] H Q := .inl ⟨i, rfl, q⟩
def rAbs : List V → Hp → VK → Prop := fun xs H Q => ∃ i, xs = [.int i] ∧ Q (.int (if i < 0 then -i else i)) H
theorem call_absU {X : Cx} : CallR X (.builtin "abs") rAbs := call_abs
theorem i_abs {H : Hp} {Q : VK} {i : Int} (q : Q (.int (if i < 0 then -i else i)) H) : rAbs [.int i] H Q := ⟨i, rfl, q⟩
def rMax2 : List V → Hp → VK → Prop := fun xs H Q => ∃ i j, xs = [.int i, .int j] ∧ Q (.int (if j > i then j else i)) H
theorem call_max2U {X : Cx} (hc : X.calm = true) : CallR X (.builtin "max") rMax2 := call_max2 hc
theorem i_max2 {H : Hp} {Q : VK} {i j : Int} (q : Q (.int (if j > i then j else i)) H) : rMax2 [.int i, .int j] H Q := ⟨i, j, rfl, q⟩
def rMin2 : List V → Hp → VK → Prop := fun xs H Q => ∃ i j, xs = [.int i, .int j] ∧ Q (.int (if j < i then j else i)) H
theorem call_min2U {X : Cx} (hc : X.calm = true) : CallR X (.builtin "min") rMin2 := call_min2 hc
theorem i_min2 {H : Hp} {Q : VK} {i j : Int} (q : Q (.int (if j < i then j else i)) H) : rMin2 [.int i, .int j] H Q := ⟨i, j, rfl, q⟩
def rLen (K : PySem.W.Frag) : List V → Hp → VK → Prop := fun xs H Q => ∃ x n, xs = [x] ∧ LenV K x H n ∧ Q (.int n) H
theorem call_lenU {X : Cx} : CallR X (.builtin "len") (rLen X.K) := call_len
theorem i_len_l {K : PySem.W.Frag} {H : Hp} {Q : VK} {p : Addr} {xs : List V} (h : H p = some (.lst xs)) (q : Q (.int xs.length) H) : rLen K [.ref p] H Q := ⟨_, xs.length, rfl, .inl ⟨xs, SqL.of h, rfl⟩, q⟩
theorem i_len_L {K : PySem.W.Frag} {H : Hp} {Q : VK} {p : Addr} {xs : List V} (h : SqL K H p xs) (q : Q (.int xs.length) H) : rLen K [.ref p] H Q := ⟨_, xs.length, rfl, .inl ⟨xs, h, rfl⟩, q⟩
theorem i_len_t {K : PySem.W.Frag} {H : Hp} {Q : VK} {p : Addr} {xs : List V} (h : H p = some (.tup xs)) (q : Q (.int xs.length) H) : rLen K [.ref p] H Q := ⟨_, xs.length, rfl, .inr ⟨xs, SqT.of h, rfl⟩, q⟩
theorem i_len_s {K : PySem.W.Frag} {H : Hp} {Q : VK} {x : Str} (h : x.length ≤ sizeLine) (q : Q (.int x.length) H) : rLen K [.str x] H Q := ⟨_, x.length, rfl, ⟨h, rfl⟩, q⟩
def rDivmod : List V → Hp → VK → Prop := fun xs H Q => ∃ i j, xs = [.int i, .int j] ∧ CDivP i j ∧ ∀ p, H p = none → Q (.ref p) (upd H p (.tup [.int (i / j), .int (i % j)]))
theorem call_divmodU {X : Cx} : CallR X (.builtin "divmod") rDivmod := call_divmodW
theorem i_divmod {H : Hp} {Q : VK} {i j : Int} (c : CDivP i j) (q : ∀ p, H p = none → Q (.ref p) (upd H p (.tup [.int (i / j), .int (i % j)]))) : rDivmod [.int i, .int j] H Q := ⟨i, j, rfl, c, q⟩
def rOr (r s : R2) : R2 := fun x y H Q => r x y H Q ∨ s x y H Q
section
variable {X : Cx} {f : Value → Value → Sem Value} {r s : R2}
theorem opr_or (h : OpR X f r) (h' : OpR X f s) : OpR X f (rOr r s) := fun pins sh σ H x y v u Q I rx ry q => by
  rcases q with q | q
  · exact h pins sh σ H x y v u Q I rx ry q
  · exact h' pins sh σ H x y v u Q I rx ry q
def rAddS : R2 := fun x y H Q => ∃ i j, x = .str i ∧ y = .str j ∧ i.length + j.length ≤ sizeLine ∧ Q (.str (i ++ j)) H
def rAddU : R2 := rOr (rI0 fun i j => .int (i + j)) (rOr rAddS rCat)
theorem op_addU : OpR X (binaryOp .Add) rAddU := opr_or op_add (opr_or op_add_str op_cat)
def rSubU : R2 := rI0 fun i j => .int (i - j)
theorem op_subU : OpR X (binaryOp .Sub) rSubU := op_sub
def rMulU : R2 := rOr (rI CMulW fun i j => .int (i * j)) rRep
theorem op_mulU : OpR X (binaryOp .Mult) rMulU := opr_or op_mulW op_rep
def rFdU : R2 := rI CDivW fun i j => .int (i / j)
theorem op_fdivU : OpR X (binaryOp .FloorDiv) rFdU := op_fdivW
def rMdU : R2 := rI (fun _ j => 0 < j) fun i j => .int (i % j)
theorem op_modU : OpR X (binaryOp .Mod) rMdU := op_mod
def rEqU (K : PySem.W.Frag) : R2 := rOr rEq (rEqD K)
def rNeU (K : PySem.W.Frag) : R2 := rOr rNe (rNeD K)
theorem op_eqU (hu : X.A.units + 64 < cLine) : OpR X (compareOp .Eq) (rEqU X.K) := opr_or op_eq (op_eqD hu)
theorem op_neU (hu : X.A.units + 64 < cLine) : OpR X (compareOp .NotEq) (rNeU X.K) := opr_or op_ne (op_neD hu)
theorem ix_U : IxR X (rIx X.K) := ix_seq
end
section
variable {σ : L2.St} {H : Hp} {Q : VK} {K : PySem.W.Frag} {v x y : V} {i j : Int}
theorem i_add_i (q : Q (.int (i + j)) H) : rAddU (.int i) (.int j) H Q := .inl ⟨i, j, rfl, rfl, q⟩
theorem i_add_s {a b : Str} (h : a.length + b.length ≤ sizeLine) (q : Q (.str (a ++ b)) H) : rAddU (.str a) (.str b) H Q := .inr (.inl ⟨a, b, rfl, rfl, h, q⟩)
theorem i_sub_i (q : Q (.int (i - j)) H) : rSubU (.int i) (.int j) H Q := ⟨i, j, rfl, rfl, q⟩
theorem i_mul_i (h : CMulW i j) (q : Q (.int (i * j)) H) : rMulU (.int i) (.int j) H Q := .inl ⟨i, j, rfl, rfl, h, q⟩
theorem i_fd_i (h : CDivW i j) (q : Q (.int (i / j)) H) : rFdU (.int i) (.int j) H Q := ⟨i, j, rfl, rfl, h, q⟩
theorem i_md_i (h : 0 < j) (q : Q (.int (i % j)) H) : rMdU (.int i) (.int j) H Q := ⟨i, j, rfl, rfl, h, q⟩
theorem i_eq_s (h : scal x y = true) (q : Q (.bl (decide (x = y))) H) : rEqU K x y H Q := .inl ⟨h, q⟩
theorem i_ne_s (h : scal x y = true) (q : Q (.bl (!decide (x = y))) H) : rNeU K x y H Q := .inl ⟨h, q⟩
theorem i_ix_l {p : Addr} {xs : List V} (h : H p = some (.lst xs)) (ha : atI xs i = some v) (q : Q v H) : rIx K (.ref p) (.int i) H Q := .inl ⟨p, xs, i, v, rfl, rfl, SqL.of h, ha, q⟩
theorem i_ix_L {p : Addr} {xs : List V} (h : SqL K H p xs) (ha : atI xs i = some v) (q : Q v H) : rIx K (.ref p) (.int i) H Q := .inl ⟨p, xs, i, v, rfl, rfl, h, ha, q⟩
theorem i_ix_t {p : Addr} {xs : List V} (h : H p = some (.tup xs)) (ha : atI xs i = some v) (q : Q v H) : rIx K (.ref p) (.int i) H Q := .inr (.inl ⟨p, xs, i, v, rfl, rfl, SqT.of h, ha, q⟩)
end
end Ly
namespace Ly
open PySem PySem.Spec PyProof.Rows L2
theorem rel_ni {v : V} {u : Value} (r : RelV v u) : u ≠ .notImplemented := by
  intro z
  subst z
  cases v <;> first | (cases r; done) | (obtain ⟨_, q⟩ := r; exact Value.noConfusion q)
theorem cmpback {X : Cx} {pins : List (Addr × Obj)} {σ : L2.St} {Q : VK} {t : Sem Value} {A : Around} {s : Shared} (h : wpAny (model X.prog X.w) A t (EP X pins σ Q) X.xe s) :
    wpAny (model X.prog X.w) A t (PySem.W.CmpBack (EP X pins σ Q)) X.xe s := by
  refine wpAny_mono h (fun u s' q => ?_) fun _ _ e => e
  obtain ⟨v, H', I, r, q⟩ := q
  have n := rel_ni r
  cases u <;> first | exact (n rfl).elim | exact ⟨v, H', I, r, q⟩
section
open PySem.W PySem.Calls
variable {X : Cx} {C f : Addr} {fd : FuncData} {ps : List Str} {sp : Sp} {k : Nat}
/-- a def run somewhere below the running body -/
theorem run_at {pins : List (Addr × Obj)} {σ : L2.St} {H : Hp} {s : Shared} {Q : VK} {us : List Value} {vs : List V} {A' : Around} {E' : Value → Shared → Prop} (F : FnOk X.prog X.w X.K X.mg X.base CX0 k f fd ps sp) (hr : Room k A') (hfr : A'.frames = X.A.frames) (hb : Binds X.K fd ps [])
    (I : Inv X pins σ H s) (r : Vals vs us) (h : sp vs H Q E0) : wpAny (model X.prog X.w) A' (call (.ref f) us) (EP X pins σ Q) E' s := by
  have e0 : Env0 X.prog X.w X.K X.mg X.base A' X.stack s H := by
    have e := I.env0
    exact ⟨by rw [hfr]; exact e.frames, e.mod, e.bs, e.bsz, e.funs, e.frf, e.hok, e.bare⟩
  have hl : (us ++ []).length = ps.length := by
    rw [List.append_nil, ← r.length]
    exact F.len _ _ _ _ h
  refine wpAny_call (codeAny_mono (F.run A' X.stack s H ⟨us, []⟩ us vs Q E0 hr e0 (by
    have z := hb s us I.kIn hl
    rw [List.append_nil] at z
    exact z) r h) fun r s' hq => ?_)
  cases r with
  | error e => exact False.elim hq
  | ok fl =>
    cases fl with
    | ret u => exact I.after hq
    | next => exact False.elim hq
    | brk => exact False.elim hq
    | cont => exact False.elim hq
end
section
open PySem.W PySem.Calls
variable {X : Cx} {C f : Addr} {fd : FuncData} {ps : List Str} {sp : Sp} {k : Nat}
/-- what an own == is asked: a bool comes back -/
abbrev bq (g : Bool → Bool) (Q : VK) : VK := fun v H' => ∃ b, v = .bl b ∧ Q (.bl (g b)) H'
/-- own == anything whose type is not below the class -/
def rEqOwn (C : Addr) (sp : Sp) : R2 := fun x y H Q => ∃ a dx fs, x = .ref a ∧ H a = some (.ins C dx fs) ∧ ((∃ b dy gs, y = .ref b ∧ H b = some (.ins C dy gs)) ∨ ∃ i, y = .int i) ∧ sp [x, y] H Q E0
theorem op_eq_own (F : FnOk X.prog X.w X.K X.mg X.base CX0 k f fd ps sp) (hr : Room k X.A) (hb : Binds X.K fd ps []) (hs : findIn X.K (.ref C) "__eq__" = some (some (.ref f))) (hf : isFn X.K (.ref f) = true)
    (hn : notFirst X.K C (.type "int") = true) : OpR X (compareOp .Eq) (rEqOwn C sp) := by
  intro pins s σ H x y v u Q I rx ry q
  obtain ⟨a, dx, fs, rfl, ha, hy, q⟩ := q
  cases rx
  obtain ⟨mA, J, _⟩ := ins_get I.hok ha
  obtain ⟨od, J, _⟩ := J.look
  obtain ⟨m, hF⟩ := I.fr
  have body := cmpback (run_fn (us := [.ref a, u]) (vs := [.ref a, y]) (Q := Q) F hr hb .nil pass0 I (.cons rfl (.cons ry .nil)) q)
  rcases hy with ⟨b, dy, gs, rfl, hb'⟩ | ⟨i, rfl⟩
  · cases ry
    obtain ⟨mB, J', _⟩ := ins_get I.hok hb'
    obtain ⟨od', J', _⟩ := J'.look
    exact PySem.W.cmp_K (op := .Eq) (tb := .ref C) hr.units0 hF I.ok.mod.kin J J'.type (by simp [PySem.W.notFirst]) hs hf body
  · obtain ⟨t, rfl⟩ := ry
    exact PySem.W.cmp_K (op := .Eq) (tb := .type "int") hr.units0 hF I.ok.mod.kin J (Looks.of_pure rfl) hn hs hf body
end
end Ly
namespace Ly
open PySem PySem.Spec PyProof.Rows L2
/-- C.m is a static method: its record at p, its def at g -/
structure SMet (K : PySem.W.Frag) (C : Addr) (mc : Value) (m : Str) (p g : Addr) : Prop where
  at_ : PySem.W.findCls K (.ref C) mc m = some (.get (.builtin "staticmethod.__get__") (.ref p) .none (.ref C))
  rc : ∃ rest, PySem.W.recIn K p "staticmethod" = some (.ref g :: rest)
  kp : PySem.W.keepIn K (.ref g) = true
def tSMeth (C : Addr) (sp : Sp) (dvs : List V) (ta : TE) (t : TA) : TE := fun σ H Q => ta σ H fun x H1 => x = .ref C ∧ t σ H1 fun vs H2 => sp (vs ++ dvs) H2 Q E0
section
variable {X : Cx} {k : Nat} {C p g : Addr} {mc : Value} {fd : FuncData} {ps ks : List Str} {sp : Sp} {o e : Expr} {es : List Expr} {kws : List Keyword} {m : Str} {pos apos : Pos} {ta : TE} {t tk : TA} {pl : Sem Bool} {dvs : List V} {ds : List Value} {gv : List Value → List Value → List Value} {gV : List V → List V → List V}
theorem getsm_ok {pins : List (Addr × Obj)} {σ : L2.St} {H : Hp} {s : Shared} {A : Around} {E : Value → Shared → Prop} {Q : Value × List Value → Shared → Prop} (I : Inv X pins σ H s) (r : ClX.CRead X.K C mc) (c : SMet X.K C mc m p g)
    (h : ∀ s', Inv X pins σ H s' → Q (.ref g, []) s') : wpAny (model X.prog X.w) A (getMethod (.ref C) m pl) Q E s := by
  obtain ⟨rest, hp⟩ := c.rc
  refine PySem.W.method_cls I.kIn r.ga (PySem.W.cls_bind I.kIn r.rd c.at_ (wpAny_call (PySem.W.sm_get (s := { s with toks := s.toks + 1 }) I.kIn hp (PySem.W.handed_on rfl ?_))))
  exact h _ (I.tok _)
theorem pe_smeth (he : PE X o ta) (r : ClX.CRead X.K C mc) (c : SMet X.K C mc m p g) (F : FnOk X.prog X.w X.K X.mg X.base CX0 k g fd ps sp) (hr : Room k X.A) (hb : Binds X.K fd ps ds) (hd : Vals dvs ds) (ha : PA X (e :: es) t)
    (hst : starEach (e :: es) X.env = (false, eval e X.env) :: starEach es X.env := by rfl) (hpl : (backTo pos (starEach es X.env)).any (·.1) = false := by rfl)
    (ht : eval (.Call (.Attribute o m apos) (e :: es) [] pos) X.env = (do
      let ov ← eval o X.env
      standAt apos.atName
      let (f, first) ← holding [ov] (getMethod ov m pl)
      callWith pos f first (backTo pos (starEach (e :: es) X.env)) (backToKw pos (keywordEach [] X.env))) := by rfl) :
    PE X (.Call (.Attribute o m apos) (e :: es) [] pos) (tSMeth C sp dvs ta t) := by
  refine ⟨fun pins s σ H Q I h => ?_⟩
  refine PySem.W.methodCall_KW (pl := pl) (thn (he.run pins s σ H _ I h) fun u s1 ⟨x, H1, I1, rx, ex, q⟩ => ?_) ht
  subst ex
  obtain rfl : u = Value.ref C := rx
  refine getsm_ok I1 r c fun s2 I2 => ?_
  refine PySem.W.callWith_K (h₀ := X.base) I.ok.mod.kin c.kp (thn (ha.run pos pins s2 σ H1 _ I2 q) fun us s3 ⟨vs, H2, I3, rv, q2⟩ => ⟨I3.kIn, ?_⟩) hst hpl
  exact run_fn F hr hb hd pass0 I3 rv q2
/-- a def run with keywords -/
theorem run_kn {n : Nat} {pins : List (Addr × Obj)} {σ : L2.St} {H : Hp} {s : Shared} {Q : VK} {us ws : List Value} {vs zs : List V} (F : FnOk X.prog X.w X.K X.mg X.base CX0 k g fd ps sp) (hr : Room k X.A) (hb : KBn X.K fd ps n ks gv gV) (I : Inv X pins σ H s)
    (r : Vals vs us) (rz : Vals zs ws) (l1 : vs.length = n) (l2 : zs.length = ks.length) (h : sp (gV vs zs) H Q E0) : wpAny (model X.prog X.w) X.A (call (.ref g) us (ks.zip ws)) (EP X pins σ Q) X.xe s := by
  refine wpAny_call (codeAny_mono (F.run X.A X.stack s H ⟨us, ks.zip ws⟩ (gv us ws) (gV vs zs) Q E0 hr I.env0 (hb.to s us ws I.kIn (r.length.symm.trans l1) (rz.length.symm.trans l2)) (hb.rel r rz) h) fun r s' hq => ?_)
  cases r with
  | error e => exact False.elim hq
  | ok fl =>
    cases fl with
    | ret u => exact I.after hq
    | next => exact False.elim hq
    | brk => exact False.elim hq
    | cont => exact False.elim hq
/-- C.m(k = v, ..), a static method -/
def tSMethK0 (C : Addr) (m : Nat) (sp : Sp) (gV : List V → List V → List V) (ta : TE) (tk : TA) : TE := fun σ H Q => ta σ H fun x H1 => x = .ref C ∧ tk σ H1 fun zs H2 => zs.length = m ∧ sp (gV [] zs) H2 Q E0
/-- o.m(k = v, ..) of an instance -/
def tMethK0 (C : Addr) (m : Str) (n : Nat) (sp : Sp) (gV : List V → List V → List V) (ta : TE) (tk : TA) : TE := fun σ H Q => ta σ H fun x H1 => ∃ a dx fs, x = .ref a ∧ H1 a = some (.ins C dx fs) ∧ fs.lookup m = none ∧ tk σ H1 fun zs H2 => zs.length = n ∧ sp (gV [x] zs) H2 Q E0
theorem pe_methK0 (he : PE X o ta) (c : Cls X.K C) (hm : Meth X.K C m g) (F : FnOk X.prog X.w X.K X.mg X.base CX0 k g fd ps sp) (hr : Room k X.A) (hb : KBn X.K fd ps 1 ks gv gV) (hkw : PK X kws tk)
    (hall : (backToKw pos (keywordEach kws X.env)).all (·.1.isSome) = true := by rfl) (hks : (backToKw pos (keywordEach kws X.env)).filterMap (·.1) = ks := by rfl)
    (hpl : ((backTo pos (starEach [] X.env)).any (·.1) || (backToKw pos (keywordEach kws X.env)).any (·.1.isNone)) = false := by rfl)
    (ht : eval (.Call (.Attribute o m apos) [] kws pos) X.env = (do
      let ov ← eval o X.env
      standAt apos.atName
      let (f, first) ← holding [ov] (getMethod ov m pl)
      callWith pos f first (backTo pos (starEach [] X.env)) (backToKw pos (keywordEach kws X.env))) := by rfl) :
    PE X (.Call (.Attribute o m apos) [] kws pos) (tMethK0 C m ks.length sp gV ta tk) := by
  refine ⟨fun pins s σ H Q I h => ?_⟩
  refine PySem.W.methodCall_KW (pl := pl) (thn (he.run pins s σ H _ I h) fun u s1 ⟨x, H1, I1, rx, a, dx, fs, ex, ea, l, q⟩ => ?_) ht
  subst ex
  obtain rfl : u = Value.ref a := rx
  refine getmeth_ok I1 ea c hm l ?_
  refine PySem.W.callWith_KW0 (first := [.ref a]) (h₀ := X.base) I.ok.mod.kin hm.kp hall ?_ hpl
  refine thn (hkw.run pos pins s1 σ H1 _ I1 q) fun ws s3 ⟨zs, H2, I3, rz, l2, q2⟩ => ⟨I3.kIn, ?_⟩
  rw [hks]
  exact run_kn (us := [.ref a]) (vs := [.ref a]) F hr hb I3 (.cons rfl .nil) rz rfl l2 q2
end
/-- how keywords bind where a def has no defaults -/
theorem kbn_of {K : PySem.W.Frag} {x qual : Str} {st : Stmt} {f : Addr} {fd : FuncData} {ps ks : List Str} {n : Nat} (F : L2.Fun K x qual st f fd)
    (h : ∀ (kV doc pm : Value) (an : Option Addr) (cdv ct : Value) (us ws : List Value), us.length = n → ws.length = ks.length →
      bindArgs (PySem.W.fnOf x qual (defArgs st) (defBody st) (defScope st) .none kV doc pm an cdv ct) ⟨us, ks.zip ws⟩ = pure (ps.zip (us ++ ws))) : KBn K fd ps n ks (· ++ ·) (· ++ ·) := by
  obtain ⟨oc, od, kV, doc, pm, an, cdv, ct, osl, rfl, lk, hcd⟩ := F.ex
  exact ⟨fun s us ws _ l1 l2 => .of_eq (h kV doc pm an cdv ct us ws l1 l2), fun r1 r2 => r1.append r2⟩
end Ly
namespace Ly
open PySem PySem.Spec PyProof.Rows L2
section
open PySem.W
variable {X : Cx} {C f : Addr} {fd : FuncData} {ps : List Str} {sp : Sp} {k : Nat} {op : Operator}
/-- the class's mro is itself and object -/
def mro2 (K : PySem.W.Frag) (C : Addr) : Bool := (clsIn K C).any fun cd => cd.mro == [.ref C, .type "object"]
theorem mro2_of {K : PySem.W.Frag} {C : Addr} (h : mro2 K C = true) : ∃ cd, clsIn K C = some cd ∧ cd.mro = [.ref C, .type "object"] := by
  obtain ⟨cd, h1, h2⟩ := any_some h
  exact ⟨cd, h1, by simpa using h2⟩
end
end Ly
namespace Ly
open PySem PySem.Spec PyProof.Rows L2
structure GM (K : PySem.W.Frag) (C : Addr) (m qual : Str) (st : Stmt) : Prop where
  ex : ∃ (f : Addr) (fd : FuncData), L2.Fun K m qual st f fd ∧ Meth K C m f
structure GS (K : PySem.W.Frag) (C : Addr) (m qual : Str) (st : Stmt) : Prop where
  ex : ∃ (p g : Addr) (fd : FuncData) (mc : Value), L2.Fun K m qual st g fd ∧ SMet K C mc m p g ∧ ClX.CRead K C mc
structure GP (K : PySem.W.Frag) (C : Addr) (m qual : Str) (st : Stmt) : Prop where
  ex : ∃ (p g : Addr) (fd : FuncData), L2.Fun K m qual st g fd ∧ PropOf K C m p g
structure GI (K : PySem.W.Frag) (C : Addr) (qual : Str) (st : Stmt) (dvs : List V) : Prop where
  ex : ∃ (f : Addr) (fd : FuncData), FunD K "__init__" qual (defArgs st) (defBody st) (defScope st) dvs [] f fd ∧ Mk K C f
structure OwnC (K : PySem.W.Frag) (mg : Str → Option Value) (x : Str) (C : Addr) : Prop where
  mg : mg x = some (.ref C)
  cls : Cls K C
  kp : PySem.W.keepIn K (.ref C) = true
  sf : PySem.W.selfFirst K C = true
  m2 : mro2 K C = true
  sI : PySem.W.subIn K (.type "int") (.ref C) = some false
  sI' : PySem.W.subIn K (.ref C) (.type "int") = some false
  sO : PySem.W.subIn K (.ref C) (.type "object") = some true
  nI : PySem.W.notFirst K C (.type "int") = true
  kO : PySem.W.kitOne K (.ref C) (.ref C) = some true
  kI : PySem.W.kitOne K (.type "int") (.ref C) = some false
  cl : PySem.W.findIn K (.ref C) "__class__" = some (some (.builtin "object.__class__"))
  mo : PySem.W.mroIn K C (.type "object") = some true
structure Mt (W : Wd) (k : Nat) (C : Addr) (m : Str) (sp : Sp) : Prop where
  ex : ∃ (f : Addr) (fd : FuncData) (ps : List Str), Meth W.K C m f ∧ FnOk W.P W.w W.K W.mg W.base CX0 k f fd ps sp ∧ Binds W.K fd ps []
structure MtK (W : Wd) (k : Nat) (C : Addr) (m : Str) (n : Nat) (ks : List Str) (sp : Sp) : Prop where
  ex : ∃ (f : Addr) (fd : FuncData) (ps : List Str), Meth W.K C m f ∧ FnOk W.P W.w W.K W.mg W.base CX0 k f fd ps sp ∧ KBn W.K fd ps n ks (· ++ ·) (· ++ ·)
structure Sm (W : Wd) (k : Nat) (C : Addr) (m : Str) (sp : Sp) : Prop where
  ex : ∃ (p g : Addr) (fd : FuncData) (ps : List Str) (mc : Value), ClX.CRead W.K C mc ∧ SMet W.K C mc m p g ∧ FnOk W.P W.w W.K W.mg W.base CX0 k g fd ps sp ∧ Binds W.K fd ps []
structure Pp (W : Wd) (k : Nat) (C : Addr) (m : Str) (sp : Sp) : Prop where
  ex : ∃ (p g : Addr) (fd : FuncData) (ps : List Str), PropOf W.K C m p g ∧ FnOk W.P W.w W.K W.mg W.base CX0 k g fd ps sp ∧ Binds W.K fd ps []
/-- a class whose instances are made by position, dvs the defaults that fill up -/
structure Mak (W : Wd) (k : Nat) (x : Str) (C : Addr) (sp : Sp) (dvs : List V) : Prop where
  ex : ∃ (f : Addr) (fd : FuncData) (ps : List Str) (ds : List Value), Mk W.K C f ∧ FnOk W.P W.w W.K W.mg W.base CX0 k f fd ps sp ∧ W.mg x = some (.ref C) ∧ Binds W.K fd ps ds ∧ Vals dvs ds
/-- a body as cl_of and its kin want it -/
def BodyOk (W : Wd) (k : Nat) (N : List Str) (qual : Str) (st : Stmt) (sp : Sp) : Prop :=
  ∀ (f : Addr) (cdv : Value) (A : Around) (outer : List Env) (s : Shared) (H : Hp) (vs : List V) (Q : VK) (E : XK), Room k (A.deeper (envOfC qual (defScope st) s.heap.objs.size f cdv)) → sp vs H Q E →
      ∃ t, PSs (cxOf CX0 W.P W.w W.K W.mg W.base N qual (defScope st) f cdv A outer s H E).nox (defBody st) t ∧ t { nx := fun _ H' => Q .non H', rt := Q } (start N vs) H
def BindOk (m qual : Str) (st : Stmt) (ps : List Str) : Prop :=
  ∀ (kV doc pm : Value) (an : Option Addr) (cdv ct : Value) (us : List Value), us.length = ps.length → bindArgs (PySem.W.fnOf m qual (defArgs st) (defBody st) (defScope st) .none kV doc pm an cdv ct) ⟨us, []⟩ = pure (ps.zip us)
def KBindOk (m qual : Str) (st : Stmt) (ps : List Str) (n : Nat) (ks : List Str) : Prop :=
  ∀ (kV doc pm : Value) (an : Option Addr) (cdv ct : Value) (us ws : List Value), us.length = n → ws.length = ks.length → bindArgs (PySem.W.fnOf m qual (defArgs st) (defBody st) (defScope st) .none kV doc pm an cdv ct) ⟨us, ks.zip ws⟩ = pure (ps.zip (us ++ ws))
section
variable {W : Wd} {k : Nat} {C : Addr} {m qual : Str} {st : Stmt} {N ps ks : List Str} {n : Nat} {sp : Sp}
theorem cl_of' {x : Str} (g : GF W.K W.mg x st) (S : FnScope N ps (defScope st)) (hb : BindOk x x st ps) (len : ∀ vs H Q E, sp vs H Q E → vs.length = ps.length) (hbody : BodyOk W k N x st sp) : Cl W (k + 1) x sp := cl_of g S hb len hbody
theorem mt_of (g : GM W.K C m qual st) (S : FnScope N ps (defScope st)) (hb : BindOk m qual st ps) (len : ∀ vs H Q E, sp vs H Q E → vs.length = ps.length) (hbody : BodyOk W k N qual st sp) : Mt W (k + 1) C m sp := by
  obtain ⟨f, fd, F, hm⟩ := g.ex
  exact ⟨f, fd, ps, hm, F.ok S len (fun cdv A outer s H vs Q E => hbody f cdv A outer s H vs Q E), F.binds hb⟩
theorem mtk_of (g : GM W.K C m qual st) (S : FnScope N ps (defScope st)) (hb : KBindOk m qual st ps n ks) (len : ∀ vs H Q E, sp vs H Q E → vs.length = ps.length) (hbody : BodyOk W k N qual st sp) : MtK W (k + 1) C m n ks sp := by
  obtain ⟨f, fd, F, hm⟩ := g.ex
  exact ⟨f, fd, ps, hm, F.ok S len (fun cdv A outer s H vs Q E => hbody f cdv A outer s H vs Q E), kbn_of F hb⟩
theorem sm_of (g : GS W.K C m qual st) (S : FnScope N ps (defScope st)) (hb : BindOk m qual st ps) (len : ∀ vs H Q E, sp vs H Q E → vs.length = ps.length) (hbody : BodyOk W k N qual st sp) : Sm W (k + 1) C m sp := by
  obtain ⟨p, f, fd, mc, F, hm, hr⟩ := g.ex
  exact ⟨p, f, fd, ps, mc, hr, hm, F.ok S len (fun cdv A outer s H vs Q E => hbody f cdv A outer s H vs Q E), F.binds hb⟩
theorem pp_of (g : GP W.K C m qual st) (S : FnScope N ps (defScope st)) (hb : BindOk m qual st ps) (len : ∀ vs H Q E, sp vs H Q E → vs.length = ps.length) (hbody : BodyOk W k N qual st sp) : Pp W (k + 1) C m sp := by
  obtain ⟨p, f, fd, F, hm⟩ := g.ex
  exact ⟨p, f, fd, ps, hm, F.ok S len (fun cdv A outer s H vs Q E => hbody f cdv A outer s H vs Q E), F.binds hb⟩
end
section
variable {X : Cx} {k j : Nat} {C : Addr} {x m : Str} {sp : Sp} {p pos apos : Pos} {o e : Expr} {es : List Expr} {kws : List Keyword} {ta : TE} {t tk : TA} {dvs : List V} {pl : Sem Bool} {ks : List Str}
theorem pe_mt (c : Cls X.K C) (h : Mt ⟨X.prog, X.w, X.K, X.mg, X.base⟩ k C m sp) (hr : Room j X.A) (hk : k ≤ j) (he : PE X o ta) (ha : PA X (e :: es) t)
    (hst : starEach (e :: es) X.env = (false, eval e X.env) :: starEach es X.env := by rfl) (hpl : (backTo pos (starEach es X.env)).any (·.1) = false := by rfl)
    (ht : eval (.Call (.Attribute o m apos) (e :: es) [] pos) X.env = (do
      let ov ← eval o X.env
      standAt apos.atName
      let (f, first) ← holding [ov] (getMethod ov m pl)
      callWith pos f first (backTo pos (starEach (e :: es) X.env)) (backToKw pos (keywordEach [] X.env))) := by rfl) :
    PE X (.Call (.Attribute o m apos) (e :: es) [] pos) (tMeth C m sp [] E0 ta t) := by
  obtain ⟨f, fd, ps, hm, F, b⟩ := h.ex
  exact pe_meth (pl := pl) he c hm F (hr.mono hk) b .nil pass0 ha hst hpl ht
theorem pe_mt0 (c : Cls X.K C) (h : Mt ⟨X.prog, X.w, X.K, X.mg, X.base⟩ k C m sp) (hr : Room j X.A) (hk : k ≤ j) (he : PE X o ta)
    (ht : eval (.Call (.Attribute o m apos) [] [] pos) X.env = (do
      let ov ← eval o X.env
      standAt apos.atName
      let (f, first) ← holding [ov] (getMethod ov m pl)
      callWith pos f first (backTo pos (starEach [] X.env)) (backToKw pos (keywordEach [] X.env))) := by rfl) :
    PE X (.Call (.Attribute o m apos) [] [] pos) (tMeth C m sp [] E0 ta tNil) := by
  obtain ⟨f, fd, ps, hm, F, b⟩ := h.ex
  exact pe_meth0 (pl := pl) he c hm F (hr.mono hk) b .nil pass0 ht
theorem pe_mtk (c : Cls X.K C) (h : MtK ⟨X.prog, X.w, X.K, X.mg, X.base⟩ k C m 1 ks sp) (hr : Room j X.A) (hk : k ≤ j) (he : PE X o ta) (hkw : PK X kws tk)
    (hall : (backToKw pos (keywordEach kws X.env)).all (·.1.isSome) = true := by rfl) (hks : (backToKw pos (keywordEach kws X.env)).filterMap (·.1) = ks := by rfl)
    (hpl : ((backTo pos (starEach [] X.env)).any (·.1) || (backToKw pos (keywordEach kws X.env)).any (·.1.isNone)) = false := by rfl)
    (ht : eval (.Call (.Attribute o m apos) [] kws pos) X.env = (do
      let ov ← eval o X.env
      standAt apos.atName
      let (f, first) ← holding [ov] (getMethod ov m pl)
      callWith pos f first (backTo pos (starEach [] X.env)) (backToKw pos (keywordEach kws X.env))) := by rfl) :
    PE X (.Call (.Attribute o m apos) [] kws pos) (tMethK0 C m ks.length sp (· ++ ·) ta tk) := by
  obtain ⟨f, fd, ps, hm, F, b⟩ := h.ex
  exact pe_methK0 (pl := pl) he c hm F (hr.mono hk) b hkw hall hks hpl ht
theorem pe_sm (h : Sm ⟨X.prog, X.w, X.K, X.mg, X.base⟩ k C m sp) (hr : Room j X.A) (hk : k ≤ j) (he : PE X o ta) (ha : PA X (e :: es) t)
    (hst : starEach (e :: es) X.env = (false, eval e X.env) :: starEach es X.env := by rfl) (hpl : (backTo pos (starEach es X.env)).any (·.1) = false := by rfl)
    (ht : eval (.Call (.Attribute o m apos) (e :: es) [] pos) X.env = (do
      let ov ← eval o X.env
      standAt apos.atName
      let (f, first) ← holding [ov] (getMethod ov m pl)
      callWith pos f first (backTo pos (starEach (e :: es) X.env)) (backToKw pos (keywordEach [] X.env))) := by rfl) :
    PE X (.Call (.Attribute o m apos) (e :: es) [] pos) (tSMeth C sp [] ta t) := by
  obtain ⟨p, g, fd, ps, mc, r, c, F, b⟩ := h.ex
  exact pe_smeth (pl := pl) he r c F (hr.mono hk) b .nil ha hst hpl ht
theorem pe_pp (c : Cls X.K C) (h : Pp ⟨X.prog, X.w, X.K, X.mg, X.base⟩ k C m sp) (hr : Room j X.A) (hk : k + 1 ≤ j) (he : PE X e ta) (hab : attributeBase e m X.env (eval e X.env) = eval e X.env) : PE X (.Attribute e m pos) (tProp C sp [] E0 ta) := by
  obtain ⟨p, g, fd, ps, hp, F, b⟩ := h.ex
  exact pe_prop he c hp F (hr.mono hk) b .nil pass0 hab
theorem pe_mak (h : Mak ⟨X.prog, X.w, X.K, X.mg, X.base⟩ k x C sp dvs) (hr : Room j X.A) (hk : k + 1 ≤ j) (hg : Gl X x) (ha : PA X (e :: es) t)
    (hdb : (x == ("__debug__" : Str)) = false := by decide) (he : starEach (e :: es) X.env = (false, eval e X.env) :: starEach es X.env := by rfl) (hpl : (backTo pos (starEach es X.env)).any (·.1) = false := by rfl) :
    PE X (.Call (.Name x p) (e :: es) [] pos) (tMake C sp dvs E0 t) := by
  obtain ⟨f, fd, ps, ds, M, F, hm, b, d⟩ := h.ex
  exact pe_make M F (hr.mono hk) hg hm b d pass0 ha hdb he hpl
/-- a class's or another constant's name -/
theorem pe_gn {v : V} {u : Value} (hg : Gl X x) (hm : X.mg x = some u) (r : RelV v u) (hd : (x == ("__debug__" : Str)) = false := by decide) : PE X (.Name x pos) (tC v) := pe_glob hg hm r hd
end
end Ly
namespace Ly
open PySem PySem.Spec PyProof.Rows L2
section
variable {K : PySem.W.Frag} {h : Heap} {mg : Str → Option Value} {f g p C : Addr} {oc kV doc pm cdv ct dV : Value} {od an : Option Addr} {osl : Array (Option Value)} {x m qual : Str} {st : Stmt}
theorem kO_mk : PySem.W.kitOne K (.ref C) (.ref C) = some true := by
  unfold PySem.W.kitOne
  rw [if_pos]
  exact beq_self_eq_true _
theorem kI_mk {cd : ClassData} (h : PySem.W.clsIn K C = some cd) (t : PySem.W.typeIn K (.ref C) = some (.type "type")) (s : PySem.W.subIn K (.type "int") (.ref C) = some false) : PySem.W.kitOne K (.type "int") (.ref C) = some false := by
  unfold PySem.W.kitOne
  rw [if_neg (by intro z; cases eq_of_beq z)]
  unfold PySem.W.kitCls
  simp only
  rw [h, t, s]
  rfl
end
end Ly
namespace Ly
open PySem PySem.Spec PyProof.Rows L2
end Ly
namespace Ly
open PySem PySem.Spec PyProof.Rows L2
end Ly
namespace Ly
def G (t b : Int) : Int := (Int.gcd t b : Int)
/-- top and bottom in lowest terms, the bottom above 0 -/
def Nu (t b : Int) : Int := if 0 < b then t / G t b else (-t) / G t b
def De (t b : Int) : Int := if 0 < b then b / G t b else (-b) / G t b
structure Lo (t b : Int) : Prop where
  pos : 0 < b
  one : Int.gcd t b = 1
theorem G_pos {t b : Int} (h : b ≠ 0) : 0 < G t b := by
  unfold G
  have := Int.gcd_pos_of_ne_zero_right t h
  omega
theorem G_dl (t b : Int) : G t b ∣ t := Int.gcd_dvd_left ..
theorem G_dr (t b : Int) : G t b ∣ b := Int.gcd_dvd_right ..
theorem fdiv_exact {x g : Int} (hg : 0 < g) (h : g ∣ x) : x.fdiv g = x / g := Int.fdiv_eq_ediv_of_nonneg x (by omega)
theorem fdiv_exact_neg {x g : Int} (hg : 0 < g) (h : g ∣ x) : x.fdiv (-g) = (-x) / g := by
  obtain ⟨q, rfl⟩ := h
  have e1 : (g * q).fdiv (-g) = -q := by
    rw [show g * q = (-g) * (-q) by rw [Int.neg_mul_neg]]
    exact Int.mul_fdiv_cancel_left (-q) (by omega)
  rw [e1, show -(g * q) = g * (-q) by rw [Int.mul_neg]]
  exact (Int.mul_ediv_cancel_left (-q) (by omega)).symm
/-- what Ratio's constructor works out -/
theorem nu_of {t b : Int} (h : b ≠ 0) : t.fdiv (if 0 < b then G t b else -G t b) = Nu t b := by
  unfold Nu
  split
  · exact fdiv_exact (G_pos h) (G_dl t b)
  · exact fdiv_exact_neg (G_pos h) (G_dl t b)
theorem de_of {t b : Int} (h : b ≠ 0) : b.fdiv (if 0 < b then G t b else -G t b) = De t b := by
  unfold De
  split
  · exact fdiv_exact (G_pos h) (G_dr t b)
  · exact fdiv_exact_neg (G_pos h) (G_dr t b)
theorem lo_int (i : Int) : Lo i 1 := ⟨by decide, by simp⟩
theorem nu_le (t b : Int) (h : b ≠ 0) : (Nu t b).natAbs ≤ t.natAbs := by
  have hg := G_pos (t := t) h
  unfold Nu
  split
  · exact Int.natAbs_ediv_le_natAbs ..
  · have := Int.natAbs_ediv_le_natAbs (-t) (G t b)
    omega
theorem de_le (t b : Int) (h : b ≠ 0) : (De t b).natAbs ≤ b.natAbs := by
  unfold De
  split
  · exact Int.natAbs_ediv_le_natAbs ..
  · have := Int.natAbs_ediv_le_natAbs (-b) (G t b)
    omega
theorem g_le (t b : Int) (h : b ≠ 0) : (G t b).natAbs ≤ b.natAbs := by
  have := Int.le_of_dvd (show (0 : Int) < b.natAbs by omega) (show G t b ∣ (b.natAbs : Int) from by
    rw [Int.dvd_natAbs]
    exact G_dr t b)
  have := G_pos (t := t) h
  omega
end Ly
namespace Ly
open PySem PySem.Spec PyProof.Rows L2
section
variable {σ : L2.St} {H H' : Hp} {Q : VK} {K : PySem.W.Frag} {v x y : V} {ta tb te : TE} {t u : TA} {i j : Int} {D : Ends} {C : Addr} {sp : Sp} {m : Str}
theorem i_drop (q : te σ H fun _ H1 => D.nx σ H1) : tDrop te D σ H := q
theorem i_not {tt : TT} {Q : Bool → Hp → Prop} (q : tt σ H fun c H1 => Q (!c) H1) : tNot tt σ H Q := q
theorem i_or {tt uu : TT} {Q : Bool → Hp → Prop} (q : tt σ H fun c H1 => if c = true then Q true H1 else uu σ H1 Q) : tOr tt uu σ H Q := q
theorem i_and {tt uu : TT} {Q : Bool → Hp → Prop} (q : tt σ H fun c H1 => if c = true then uu σ H1 Q else Q false H1) : tAnd tt uu σ H Q := q
theorem i_tb {Q : Bool → Hp → Prop} (q : te σ H fun x H1 => ∃ c, x = .bl c ∧ Q c H1) : tB te σ H Q := q
theorem i_andV (q : ta σ H fun x H1 => ∃ c, x = .bl c ∧ if c = true then tb σ H1 Q else Q (.bl false) H1) : tAndV ta tb σ H Q := q
theorem i_orV (q : ta σ H fun x H1 => ∃ c, x = .bl c ∧ if c = true then Q (.bl true) H1 else tb σ H1 Q) : tOrV ta tb σ H Q := q
theorem i_notV (q : ta σ H fun x H1 => ∃ c, x = .bl c ∧ Q (.bl (!c)) H1) : tNotV ta σ H Q := q
theorem i_ifx {tt : TT} (q : tt σ H fun c H1 => if c = true then ta σ H1 Q else tb σ H1 Q) : tIf tt ta tb σ H Q := q
theorem i_ext {P : Bool → Prop} (h : P true) : ∃ c, V.bl true = V.bl c ∧ P c := ⟨true, rfl, h⟩
theorem i_exf {P : Bool → Prop} (h : P false) : ∃ c, V.bl false = V.bl c ∧ P c := ⟨false, rfl, h⟩
theorem i_exn {b : Bool} {P : Bool → Prop} (h : P b) : ∃ c, V.bl b = V.bl c ∧ P c := ⟨b, rfl, h⟩
theorem i_itt {A B : Prop} (h : A) : if true = true then A else B := iteT h
theorem i_itf {A B : Prop} (h : B) : if false = true then A else B := iteF h
theorem i_nt {A B : Prop} (h : B) : if (!true) = true then A else B := iteF h
theorem i_nf {A B : Prop} (h : A) : if (!false) = true then A else B := iteT h
theorem i_gcd {a b : Int} (q : Q (.int (G a b)) H) : rGcd [.int a, .int b] H Q := ⟨a, b, rfl, q⟩
def rFld (K : PySem.W.Frag) (f : Str) : V → Hp → VK → Prop := fun x H1 Q => ∃ a C dx fs v, x = .ref a ∧ H1 a = some (.ins C dx fs) ∧ Cls K C ∧ NoAttr K C f ∧ fs.lookup f = some v ∧ Q v H1
theorem i_fld {f : Str} (q : ta σ H fun x H1 => rFld K f x H1 Q) : tFld K ta f σ H Q := q
def rSFld (K : PySem.W.Frag) (f : Str) (y x : V) (H2 : Hp) (q : Hp → Prop) : Prop := ∃ a C dx fs, x = .ref a ∧ H2 a = some (.ins C dx fs) ∧ Cls K C ∧ NoAttr K C f ∧ fs.length < 1000 ∧ q (upd H2 a (.ins C dx (putF f y fs)))
theorem i_sfld {f : Str} (q : tb σ H fun y H1 => ta σ H1 fun x H2 => rSFld K f y x H2 (D.nx σ)) : sFld K ta tb f D σ H := q
def rPp (C : Addr) (sp : Sp) : V → Hp → VK → Prop := fun x H1 Q => ∃ a dx fs, x = .ref a ∧ H1 a = some (.ins C dx fs) ∧ sp [.ref a] H1 Q E0
theorem i_pp (q : ta σ H fun x H1 => rPp C sp x H1 Q) : tProp C sp [] E0 ta σ H Q := q
def rMeth (C : Addr) (m : Str) (σ : L2.St) (t : TA) (sp : Sp) : V → Hp → VK → Prop := fun x H1 Q => ∃ a dx fs, x = .ref a ∧ H1 a = some (.ins C dx fs) ∧ fs.lookup m = none ∧ t σ H1 fun vs H2 => sp (x :: vs) H2 Q E0
theorem i_meth (q : ta σ H fun x H1 => rMeth C m σ t sp x H1 Q) : tMeth C m sp [] E0 ta t σ H Q := by
  have e : (fun (x : V) (H1 : Hp) => rMeth C m σ t sp x H1 Q) = fun x H1 => ∃ a dx fs, x = .ref a ∧ H1 a = some (.ins C dx fs) ∧ fs.lookup m = none ∧ t σ H1 fun vs H2 => sp (x :: (vs ++ [])) H2 Q E0 := by
    funext x H1
    simp only [rMeth, List.append_nil]
  rw [e] at q
  exact q
theorem i_smeth (q : t σ H fun vs H2 => sp vs H2 Q E0) : tSMeth C sp [] (tC (.ref C)) t σ H Q := by
  refine ⟨rfl, ?_⟩
  simpa only [List.append_nil] using q
def rMake (C : Addr) (sp : Sp) (dvs : List V) : List V → Hp → VK → Prop := fun vs H1 Q => ∀ x dx, H1 x = none → H1 dx = none → dx ≠ x → sp (.ref x :: (vs ++ dvs)) (upd (upd H1 dx (.own x)) x (.ins C dx [])) (fun v H2 => v = .non ∧ Q (.ref x) H2) E0
theorem i_make {dvs : List V} (q : t σ H fun vs H1 => rMake C sp dvs vs H1 Q) : tMake C sp dvs E0 t σ H Q := q
def rPar (n k : Nat) (σ : L2.St) (nx : L2.St → Hp → Prop) : List V → Hp → Prop := fun vs H1 => ∃ v w, vs = [v, w] ∧ nx ((σ.set n (some v)).set k (some w)) H1
theorem i_tpar {n k : Nat} (q : t σ H fun vs H1 => rPar n k σ D.nx vs H1) : tPar n k t D σ H := q
theorem i_rpar {n k : Nat} {nx : L2.St → Hp → Prop} {v w : V} (q : nx ((σ.set n (some v)).set k (some w)) H) : rPar n k σ nx [v, w] H := ⟨v, w, rfl, q⟩
theorem i_isi {T n : String} {b : Bool} (ty : TyX K H x (.type T)) (k : kitB T n = some b) (q : Q (.bl b) H) : rIsi K [x, .ty n] H Q := ⟨x, .ty n, .type T, .type n, b, rfl, .ty n, ty, kit_ty k, q⟩
theorem i_isiO {tv : Value} {b : Bool} (ty : TyX K H x tv) (k : PySem.W.kitOne K tv (.ref C) = some b) (q : Q (.bl b) H) : rIsi K [x, .ref C] H Q := ⟨x, .ref C, tv, .ref C, b, rfl, .own C, ty, k, q⟩
end
/-- // by a divisor of either sign, below 2 ^ 9000 -/
def CDivX (_ j : Int) : Prop := j ≠ 0 ∧ j.natAbs.log2 < 9000
theorem op_fdivX {X : Cx} : OpR X (binaryOp .FloorDiv) (rI CDivX fun i j => .int (i.fdiv j)) := opI fun _ _ _ _ _ _ _ hc q => floordiv_int hc.1 q (.inl (PyProof.noPylong_of_log2 hc.2))
theorem cdivx {i j : Int} (h : j ≠ 0) {b : Nat} (hb : j.natAbs < 2 ^ b) (h0 : 0 < b) (h9 : b ≤ 9000) : CDivX i j := ⟨h, Nat.lt_of_lt_of_le (PySem.Flt.log2_lt_of h0 hb) h9⟩
def flds (t b : Int) : List (Str × V) := [("_top", .int t), ("_bottom", .int b)]
def RatAt (C : Addr) (H : Hp) (a : Addr) (t b : Int) : Prop := ∃ dx, H a = some (.ins C dx (flds t b))
theorem RatAt.same {C : Addr} {H H' : Hp} {a : Addr} {t b : Int} (s : Same H H') (r : RatAt C H a t b) : RatAt C H' a t b := by
  obtain ⟨dx, e⟩ := r
  exact ⟨dx, s _ _ e⟩
/-- a number: an int, or a Ratio -/
def Num (C : Addr) (H : Hp) (v : V) (t b : Int) : Prop := (v = .int t ∧ b = 1) ∨ ∃ a, v = .ref a ∧ RatAt C H a t b
theorem Num.same {C : Addr} {H H' : Hp} {v : V} {t b : Int} (s : Same H H') (r : Num C H v t b) : Num C H' v t b := by
  rcases r with r | ⟨a, e, r⟩
  · exact .inl r
  · exact .inr ⟨a, e, r.same s⟩
theorem bot_top : ¬ (("_bottom" : Str) = "_top") := by decide +kernel
theorem flds_top (t b : Int) : (flds t b).lookup ("_top" : Str) = some (.int t) := by
  unfold flds
  simp [List.lookup]
theorem flds_bot (t b : Int) : (flds t b).lookup ("_bottom" : Str) = some (.int b) := by
  have e : (("_bottom" : Str) == ("_top" : Str)) = false := by simpa using bot_top
  unfold flds
  simp [List.lookup, e]
theorem flds_no (t b : Int) {m : Str} (h1 : ¬ m = "_top") (h2 : ¬ m = "_bottom") : (flds t b).lookup m = none := by
  have e1 : (m == ("_top" : Str)) = false := by simpa using h1
  have e2 : (m == ("_bottom" : Str)) = false := by simpa using h2
  unfold flds
  simp [List.lookup, e1, e2]
section
variable {C a : Addr} {H : Hp} {Q : VK} {K : PySem.W.Frag} {t b : Int} {v : V}
theorem i_rtop (r : RatAt C H a t b) (c : Cls K C) (n : NoAttr K C "_top") (q : Q (.int t) H) : rFld K "_top" (.ref a) H Q := by
  obtain ⟨dx, e⟩ := r
  exact ⟨a, C, dx, _, _, rfl, e, c, n, flds_top t b, q⟩
theorem i_rbot (r : RatAt C H a t b) (c : Cls K C) (n : NoAttr K C "_bottom") (q : Q (.int b) H) : rFld K "_bottom" (.ref a) H Q := by
  obtain ⟨dx, e⟩ := r
  exact ⟨a, C, dx, _, _, rfl, e, c, n, flds_bot t b, q⟩
theorem i_rpp {sp : Sp} (r : RatAt C H a t b) (q : sp [.ref a] H Q E0) : rPp C sp (.ref a) H Q := by
  obtain ⟨dx, e⟩ := r
  exact ⟨a, dx, _, rfl, e, q⟩
theorem i_rmeth {m : Str} {σ : L2.St} {tt : TA} {sp : Sp} (r : RatAt C H a t b) (h1 : ¬ m = "_top") (h2 : ¬ m = "_bottom") (q : tt σ H fun vs H2 => sp (.ref a :: vs) H2 Q E0) : rMeth C m σ tt sp (.ref a) H Q := by
  obtain ⟨dx, e⟩ := r
  exact ⟨a, dx, _, rfl, e, flds_no t b h1 h2, q⟩
end
def Sz (n : Nat) (x : Int) : Prop := x.natAbs < 2 ^ n
theorem sz_mono {n m : Nat} {x : Int} (h : Sz n x) (k : n ≤ m) : Sz m x := Nat.lt_of_lt_of_le h (Nat.pow_le_pow_right (by decide) k)
theorem sz_le {n : Nat} {x y : Int} (h : Sz n x) (k : y.natAbs ≤ x.natAbs) : Sz n y := Nat.lt_of_le_of_lt k h
theorem sz_mul {n m : Nat} {x y : Int} (h : Sz n x) (k : Sz m y) : Sz (n + m) (x * y) := wide_lt h k
theorem sz_add {n : Nat} {x y : Int} (h : Sz n x) (k : Sz n y) : Sz (n + 1) (x + y) := by
  unfold Sz at *
  rw [Nat.pow_succ]
  omega
theorem sz_neg {n : Nat} {x : Int} (h : Sz n x) : Sz n (-x) := by
  unfold Sz at *
  omega
theorem cmul_sz {n m : Nat} {x y : Int} (h : Sz n x) (k : Sz m y) (h0 : 0 < n := by decide) (h1 : 0 < m := by decide) (h2 : n + m ≤ 1000000 := by decide) : CMulW x y := wide_mul h k h0 h1 h2
theorem sz_1 {n : Nat} (h : 0 < n := by decide) : Sz n 1 := Nat.one_lt_two_pow (by omega)
theorem sz_ediv {n : Nat} {x y : Int} (h : Sz n x) : Sz n (x / y) := sz_le h (Int.natAbs_ediv_le_natAbs ..)
section
variable {H : Hp} {Q : VK} {E : XK} {C : Addr} {i : Int}
def spIsInt : Sp := fun vs H Q _ => ∃ i : Int, vs = [.int i] ∧ Q (.bl true) H
theorem i_isint (q : Q (.bl true) H) : spIsInt [.int i] H Q E := ⟨i, rfl, q⟩
def spTop (C : Addr) : Sp := fun vs H Q _ => ∃ (x : Addr) (t b : Int), vs = [.ref x] ∧ RatAt C H x t b ∧ Q (.int t) H
theorem i_top {x : Addr} {t b : Int} (r : RatAt C H x t b) (q : Q (.int t) H) : spTop C [.ref x] H Q E := ⟨x, t, b, rfl, r, q⟩
def spBot (C : Addr) : Sp := fun vs H Q _ => ∃ (x : Addr) (t b : Int), vs = [.ref x] ∧ RatAt C H x t b ∧ Q (.int b) H
theorem i_bot {x : Addr} {t b : Int} (r : RatAt C H x t b) (q : Q (.int b) H) : spBot C [.ref x] H Q E := ⟨x, t, b, rfl, r, q⟩
/-- a number as the methods want it -/
structure Ok4 (t b : Int) : Prop where
  lo : Lo t b
  zt : Sz 4000 t
  zb : Sz 4000 b
end
theorem sz_absI {n : Nat} {t : Int} (z : Sz n t) : Sz n (if t < 0 then -t else t) := by
  unfold Sz at *
  split <;> omega
def oD (_ b t2 _ : Int) : Int := b * t2
theorem ok_int {i : Int} (z : Sz 4000 i) : Ok4 i 1 := ⟨lo_int i, z, sz_1⟩
end Ly
namespace Ly
open PySem PySem.Spec PyProof.Rows L2
section
variable {H : Hp} {Q : VK} {E : XK} {C : Addr} {x y : V} {t b t2 b2 : Int}
theorem Num.ok (n : Num C H x t b) (z : Sz 4000 t) (h : ∀ a, x = .ref a → Ok4 t b) : Ok4 t b := by
  rcases n with ⟨e, rfl⟩ | ⟨a, e, r⟩
  · exact ok_int z
  · exact h a e
theorem RatAt.num {a : Addr} (r : RatAt C H a t b) : Num C H (.ref a) t b := .inr ⟨a, rfl, r⟩
end
def It (i : Int) : Str := Str.ofString (toString i)
theorem it_len {i : Int} (h : Sz 1900 i) : (It i).length ≤ 2000 := by
  have h2 : i.natAbs.log2 < 1920 := Nat.lt_of_lt_of_le (PySem.Flt.log2_lt_of (by decide) h) (by decide)
  have e := int_text_length_le (k := 1920) (by decide) h2
  unfold It
  rw [PySem.ofString_length]
  omega
theorem it_log {i : Int} (h : Sz 1900 i) : i.natAbs.log2 < 1920 := Nat.lt_of_lt_of_le (PySem.Flt.log2_lt_of (by decide) h) (by decide)
theorem sl_of {n : Nat} (h : n ≤ 100000) : n ≤ sizeLine := Nat.le_trans h (by decide)
theorem app_len (x y : Str) : (x ++ y).length = x.length + y.length := by
  show (x.cps ++ y.cps).size = _
  rw [Array.size_append]
  rfl
section
variable {H : Hp} {Q : VK} {E : XK} {C : Addr} {σ : L2.St} {ta : TE}
def rFmt : V → Hp → VK → Prop := fun x H1 Q => (∃ y : Str, x = .str y ∧ y.length ≤ sizeLine ∧ Q (.str y) H1) ∨ ∃ i : Int, x = .int i ∧ i.natAbs.log2 < 1920 ∧ Q (.str (toString i)) H1
theorem i_fmt_i {i : Int} (h : Sz 1900 i) (q : Q (.str (It i)) H) : rFmt (.int i) H Q := .inr ⟨i, rfl, it_log h, q⟩
end
end Ly
namespace Ly
open PySem PySem.Spec PyProof.Rows L2
structure PotOk (a b : Int) : Prop where
  ha : 0 ≤ a
  hb : 0 ≤ b
  hc : b < 2147483648
def Pot (H : Hp) (p : Addr) : Prop := ∃ a b, H p = some (.lst [.int a, .int b]) ∧ PotOk a b
structure Dr (p : Addr) (H H' : Hp) : Prop where
  keep : ∀ q o, q ≠ p → H q = some o → H' q = some o
  pot : Pot H p
  pot' : Pot H' p
theorem Dr.refl {p : Addr} {H : Hp} (h : Pot H p) : Dr p H H := ⟨fun _ _ _ e => e, h, h⟩
theorem Dr.trans {p : Addr} {H H1 H2 : Hp} (a : Dr p H H1) (b : Dr p H1 H2) : Dr p H H2 := ⟨fun q o n e => b.keep q o n (a.keep q o n e), a.pot, b.pot'⟩
theorem Pot.same {p : Addr} {H H' : Hp} (s : Same H H') (h : Pot H p) : Pot H' p := by
  obtain ⟨a, b, e, o⟩ := h
  exact ⟨a, b, s _ _ e, o⟩
theorem Dr.of {p : Addr} {H H' : Hp} (s : Same H H') (h : Pot H p) : Dr p H H' := ⟨fun q o _ e => s q o e, h, h.same s⟩
theorem Dr.same {p : Addr} {H H1 H2 : Hp} (a : Dr p H H1) (s : Same H1 H2) : Dr p H H2 := a.trans (.of s a.pot')
theorem Dr.free {p : Addr} {H H' : Hp} (k : Dr p H H') {l : Addr} (h : H' l = none) : H l = none := by
  cases q : H l with
  | none => rfl
  | some o =>
    by_cases e : l = p
    · subst e
      obtain ⟨_, _, z, _⟩ := k.pot'
      rw [z] at h
      cases h
    · rw [k.keep l o e q] at h
      cases h
theorem Dr.ne {p : Addr} {H H' : Hp} (k : Dr p H H') {q : Addr} {o : HO} (h : H q = some o) (n : ∀ a b, o ≠ .lst [.int a, .int b]) : q ≠ p := by
  intro z
  subst z
  obtain ⟨a, b, e, _⟩ := k.pot
  rw [e] at h
  exact n a b (Option.some.inj h).symm
theorem Dr.tup {p : Addr} {H H' : Hp} (k : Dr p H H') {q : Addr} {xs : List V} (h : H q = some (.tup xs)) : H' q = some (.tup xs) := k.keep q _ (k.ne h fun _ _ z => by cases z) h
theorem Dr.ins {p : Addr} {H H' : Hp} (k : Dr p H H') {q C dx : Addr} {fs : List (Str × V)} (h : H q = some (.ins C dx fs)) : H' q = some (.ins C dx fs) := k.keep q _ (k.ne h fun _ _ z => by cases z) h
theorem RatAt.pk {p : Addr} {C : Addr} {H H' : Hp} {a : Addr} {t b : Int} (k : Dr p H H') (r : RatAt C H a t b) : RatAt C H' a t b := by
  obtain ⟨dx, e⟩ := r
  exact ⟨dx, k.ins e⟩
theorem Num.pk {p : Addr} {C : Addr} {H H' : Hp} {v : V} {t b : Int} (k : Dr p H H') (r : Num C H v t b) : Num C H' v t b := by
  rcases r with r | ⟨a, e, r⟩
  · exact .inl r
  · exact .inr ⟨a, e, r.pk k⟩
/-- a law's own fraction: a tuple of two ints -/
def FracAt (H : Hp) (a : Addr) (t b : Int) : Prop := H a = some (.tup [.int t, .int b])
theorem FracAt.same {H H' : Hp} {a : Addr} {t b : Int} (s : Same H H') (r : FracAt H a t b) : FracAt H' a t b := s _ _ r
theorem FracAt.pk {p : Addr} {H H' : Hp} {a : Addr} {t b : Int} (k : Dr p H H') (r : FracAt H a t b) : FracAt H' a t b := k.tup r
theorem fresh_ne {p q : Addr} {H : Hp} (h : Pot H p) (n : H q = none) : q ≠ p := by
  intro z
  subst z
  obtain ⟨_, _, e, _⟩ := h
  rw [e] at n
  cases n
/-- a new object, as a heap of its own -/
theorem i_new {H : Hp} {o : HO} {R : V → Hp → Prop} (q : ∀ p H', H p = none → H' p = some o → Same H H' → R (.ref p) H') : ∀ p, H p = none → R (.ref p) (upd H p o) := fun p n =>
  q p _ n upd_same fun b u e => by
    rw [upd_ne (ne_of_none e n)]
    exact e
section
variable {H : Hp} {Q : VK} {E : XK} {K : PySem.W.Frag} {σ : L2.St} {t : TA} {i j : Int}
def rMkT (xs : List V) (H : Hp) (Q : VK) : Prop := xs.length ≤ sizeLine ∧ ∀ p, H p = none → Q (.ref p) (upd H p (.tup xs))
def rMkL (xs : List V) (H : Hp) (Q : VK) : Prop := xs.length ≤ sizeLine ∧ ∀ p, H p = none → Q (.ref p) (upd H p (.lst xs))
theorem i_tup (q : t σ H fun xs H1 => rMkT xs H1 Q) : tTup t σ H Q := q
theorem i_lst (q : t σ H fun xs H1 => rMkL xs H1 Q) : tLst t σ H Q := q
/-- the ends of a display -/
theorem i_mkT {xs : List V} (h : xs.length ≤ 1000) (q : ∀ p H', H p = none → H' p = some (.tup xs) → Same H H' → Q (.ref p) H') : rMkT xs H Q := ⟨Nat.le_of_lt (small1000 h), i_new q⟩
theorem i_mkL {xs : List V} (h : xs.length ≤ 1000) (q : ∀ p H', H p = none → H' p = some (.lst xs) → Same H H' → Q (.ref p) H') : rMkL xs H Q := ⟨Nat.le_of_lt (small1000 h), i_new q⟩
theorem i_mkT2 {v w : V} (q : ∀ p H', H p = none → H' p = some (.tup [v, w]) → Same H H' → Q (.ref p) H') : rMkT [v, w] H Q := i_mkT (by show 2 ≤ 1000; decide) q
def spDraw : Sp := fun vs H Q _ => ∃ (p : Addr) (n : Int), vs = [.ref p, .int n] ∧ Pot H p ∧ 0 < n ∧ Sz 4000 n ∧ ∀ d H', 0 ≤ d → d < n → Dr p H H' → Q (.int d) H'
theorem i_draw {p : Addr} {n : Int} (h : Pot H p) (h0 : 0 < n) (z : Sz 4000 n) (q : ∀ d H', 0 ≤ d → d < n → Dr p H H' → Q (.int d) H') : spDraw [.ref p, .int n] H Q E := ⟨p, n, rfl, h, h0, z, q⟩
/-- a new fraction -/
def pF (t b : Int) (H : Hp) (Q : VK) : Prop := ∀ r H', H r = none → Same H H' → FracAt H' r t b → Q (.ref r) H'
def spFrac : Sp := fun vs H Q _ => ∃ u d : Int, vs = [.int u, .int d] ∧ d ≠ 0 ∧ Sz 8900 u ∧ Sz 8900 d ∧ pF (Nu u d) (De u d) H Q
theorem i_frac {u d : Int} (h : d ≠ 0) (z1 : Sz 8900 u) (z2 : Sz 8900 d) (q : pF (Nu u d) (De u d) H Q) : spFrac [.int u, .int d] H Q E := ⟨u, d, rfl, h, z1, z2, q⟩
end
section
variable {H : Hp} {Q : VK} {K : PySem.W.Frag} {i j : Int} {p s : Addr} {xs ys : List V}
theorem i_dm (c : CDivP i j) (q : ∀ t H', H t = none → H' t = some (.tup [.int (i / j), .int (i % j)]) → Same H H' → Q (.ref t) H') : rDivmod [.int i, .int j] H Q := i_divmod c (i_new q)
end
section
variable {H : Hp} {Q : VK} {K : PySem.W.Frag} {a : Addr} {t b : Int}
theorem i_ix_f0 (h : FracAt H a t b) (q : Q (.int t) H) : rIx K (.ref a) (.int 0) H Q := i_ix_t (v := .int t) h rfl q
theorem i_ix_f1 (h : FracAt H a t b) (q : Q (.int b) H) : rIx K (.ref a) (.int 1) H Q := i_ix_t (v := .int b) h rfl q
end
theorem cdivp {i j : Int} (h : 0 < j) (h2 : Sz 4000 j) : CDivP i j := by
  refine ⟨h, ?_⟩
  have hl : j.natAbs.log2 < 4000 := PySem.Flt.log2_lt_of (by decide) h2
  show (decide ((if j == 0 then 0 else j.natAbs.log2 / 30 + 1) > 300) && _) = false
  rw [decide_eq_false]
  · rfl
  · split <;> omega
theorem Dr.mut {p q : Addr} {H H' : Hp} {o : HO} (k : Dr p H H') (h : H q = none) (n : q ≠ p) : Dr p H (upd H' q o) := by
  refine ⟨fun c u hc e => ?_, k.pot, ?_⟩
  · rw [upd_ne (ne_of_none e h)]
    exact k.keep c u hc e
  · obtain ⟨a, b, e, ok⟩ := k.pot'
    exact ⟨a, b, by rw [upd_ne (fun z => n z.symm)]; exact e, ok⟩
theorem sz_lit {n : Int} (h : n.natAbs < 2 ^ 64) : Sz 4000 n := sz_mono (n := 64) h (by decide)
section
variable {H : Hp} {Q : VK} {E : XK} {K : PySem.W.Frag} {C : Addr}
def spPot (K : PySem.W.Frag) : Sp := fun vs H Q _ => ∃ (s : Addr) (ns : List Int) (k : Int), vs = [.ref s, .int k] ∧ SqL K H s (ns.map V.int) ∧ 0 ≤ k ∧ k < 100 ∧ ∀ p H', H p = none → Same H H' → Pot H' p → Q (.ref p) H'
end
end Ly
namespace Ly
open PySem PySem.Spec PyProof.Rows L2
/-- all but lists stay -/
def NL (H H' : Hp) : Prop := ∀ q o, (∀ xs, o ≠ HO.lst xs) → H q = some o → H' q = some o
theorem NL.same {H H' : Hp} (s : Same H H') : NL H H' := fun q o _ e => s q o e
theorem NL.upd {H : Hp} {q : Addr} {xs ys : List V} (h : H q = some (.lst xs)) : NL H (upd H q (.lst ys)) := fun c o n e => by
  rw [upd_ne (fun z => by rw [z, h] at e; exact n xs (Option.some.inj e).symm)]
  exact e
theorem FracAt.nl {H H' : Hp} {a : Addr} {t b : Int} (s : NL H H') (r : FracAt H a t b) : FracAt H' a t b := s _ _ (fun _ z => by cases z) r
theorem RatAt.nl {C : Addr} {H H' : Hp} {a : Addr} {t b : Int} (s : NL H H') (r : RatAt C H a t b) : RatAt C H' a t b := by
  obtain ⟨dx, e⟩ := r
  exact ⟨dx, s _ _ (fun _ z => by cases z) e⟩
section
variable {K : PySem.W.Frag} {σ : L2.St} {H : Hp} {Q : VK} {te : TE} {l : Addr} {xs : List V} {n j : Nat} {vs : List Nat}
/-- over range(n), no test -/
theorem i_lcR {ta : TA} {m : Int} (G : Nat → Hp → V → Prop) (h : ∀ Q' : List V → Hp → Prop, Q' [.int m] H → ta σ H Q') (h0 : 0 ≤ m) (h1 : m ≤ 1000) (mono : ∀ i H1 H2 v, NL H1 H2 → G i H1 v → G i H2 v) (hw : ∀ x, wipe ((wipe σ vs).set j (some x)) vs = wipe σ vs)
    (turn : ∀ (i : Nat) H' (Q' : VK), (i : Int) < m → Same H H' → (∀ y H4, Same H' H4 → G i H4 y → Q' y H4) → te ((wipe σ vs).set j (some (.int (i : Int)))) H' Q')
    (fin : ∀ r H' ys, H r = none → Same H H' → H' r = some (.lst ys) → ys.length = m.toNat → (∀ i v, ys[i]? = some v → G i H' v) → Q (.ref r) H') : tLc (iRng1 ta) (gName j) tYes te vs σ H Q := by
  refine h _ ⟨m, rfl, by omega, by omega, fun D nD => ?_⟩
  have same0 : Same H (upd H D (.lst [])) := fun c o e => by
    rw [upd_ne (ne_of_none e nD)]
    exact e
  refine lc_range (lo := 0) (n := m.toNat) (fun i H' => ∃ ys, H' D = some (.lst ys) ∧ ys.length = i ∧ i ≤ m.toNat ∧ Same H H' ∧ ∀ k v, ys[k]? = some v → G k H' v)
    ⟨[], upd_same, rfl, Nat.zero_le _, same0, fun m v e => by simp at e⟩ ?_ ?_
  · rintro i H' hi ⟨ys, hD, hy, hle, s, g⟩
    have e0 : (0 : Int) + (i : Int) = (i : Int) := Int.zero_add _
    rw [e0]
    refine ⟨hw _, ?_⟩
    show te ((wipe σ vs).set j (some (.int (i : Int)))) H' _
    refine turn i H' _ (by omega) s fun y H4 s4 gy => ⟨ys, s4 _ _ hD, by rw [hy]; exact small1000 (by omega), ys ++ [y], upd_same, by rw [List.length_append, hy]; rfl, hi, fun c o e => ?_, fun k v e => ?_⟩
    · rw [upd_ne (ne_of_none e nD)]
      exact s4 _ _ (s _ _ e)
    · have kk := NL.upd (ys := ys ++ [y]) (s4 _ _ hD)
      rcases Nat.lt_or_ge k ys.length with h | h
      · rw [List.getElem?_append_left h] at e
        exact mono k _ _ v kk (mono k _ _ v (NL.same s4) (g k v e))
      · rw [List.getElem?_append_right h] at e
        have : k - ys.length = 0 := by
          have := (List.getElem?_eq_some_iff.mp e).1
          simp at this
          omega
        rw [this] at e
        have e2 : y = v := Option.some.inj e
        subst e2
        have : k = i := by omega
        subst this
        exact mono _ _ _ y kk gy
  · rintro H' ⟨ys, hD, hy, _, s, g⟩
    exact fin D H' ys nD s hD hy g
end
section
variable {σ : L2.St} {H : Hp} {Q : VK} {E : XK} {C : Addr} {sp : Sp} {tk : TA} {ta : TE} {m : Str} {t b : Int} {a : Addr} {v : V}
def rSK (sp : Sp) (n : Nat) : List V → Hp → VK → Prop := fun zs H2 Q => zs.length = n ∧ sp ([] ++ zs) H2 Q E0
theorem i_smethK {n : Nat} (q : tk σ H fun zs H2 => rSK sp n zs H2 Q) : tSMethK0 C n sp (· ++ ·) (tC (.ref C)) tk σ H Q := ⟨rfl, q⟩
theorem i_sk1 (q : sp [v] H Q E0) : rSK sp 1 [v] H Q := ⟨rfl, q⟩
def rMK (C : Addr) (m : Str) (n : Nat) (sp : Sp) (tk : TA) (σ : L2.St) : V → Hp → VK → Prop := fun x H1 Q => ∃ a dx fs, x = .ref a ∧ H1 a = some (.ins C dx fs) ∧ fs.lookup m = none ∧ tk σ H1 fun zs H2 => zs.length = n ∧ sp ([x] ++ zs) H2 Q E0
theorem i_methK {n : Nat} (q : ta σ H fun x H1 => rMK C m n sp tk σ x H1 Q) : tMethK0 C m n sp (· ++ ·) ta tk σ H Q := q
def rMK1 (n : Nat) (sp : Sp) (x : V) : List V → Hp → VK → Prop := fun zs H2 Q => zs.length = n ∧ sp ([x] ++ zs) H2 Q E0
theorem i_rmk {n : Nat} (r : RatAt C H a t b) (h1 : ¬ m = "_top") (h2 : ¬ m = "_bottom") (q : tk σ H fun zs H2 => rMK1 n sp (.ref a) zs H2 Q) : rMK C m n sp tk σ (.ref a) H Q := by
  obtain ⟨dx, e⟩ := r
  exact ⟨a, dx, _, rfl, e, flds_no t b h1 h2, q⟩
theorem i_mk11 (q : sp [.ref a, v] H Q E0) : rMK1 1 sp (.ref a) [v] H Q := ⟨rfl, q⟩
/-- C(bottom=.., top=..) -/
def gBT {α : Type} (us ws : List α) : List α := us ++ ws.reverse
def rMakeK (C : Addr) (sp : Sp) : List V → Hp → VK → Prop := fun zs H2 Q => zs.length = 2 ∧ ∀ x dx, H2 x = none → H2 dx = none → dx ≠ x → sp (gBT [.ref x] zs) (upd (upd H2 dx (.own x)) x (.ins C dx [])) (fun v H3 => v = .non ∧ Q (.ref x) H3) E0
theorem i_makeK (q : tk σ H fun zs H2 => rMakeK C sp zs H2 Q) : tMakeK C 0 2 sp gBT E0 tNil tk σ H Q := by
  have e : (fun (zs : List V) (H2 : Hp) => rMakeK C sp zs H2 Q) = fun zs H2 => ([] : List V).length = 0 ∧ zs.length = 2 ∧ ∀ x dx, H2 x = none → H2 dx = none → dx ≠ x → sp (gBT (.ref x :: []) zs) (upd (upd H2 dx (.own x)) x (.ins C dx [])) (fun v H3 => v = .non ∧ Q (.ref x) H3) E0 := by
    funext zs H2
    simp [rMakeK]
  rw [e] at q
  exact q
end
def FrL (H : Hp) (r : Addr) (ps : List (Int × Int)) : Prop := ∃ ys : List V, H r = some (.lst ys) ∧ ys.length = ps.length ∧ ∀ (i : Nat) (v : V) (p : Int × Int), ys[i]? = some v → ps[i]? = some p → ∃ y : Addr, v = V.ref y ∧ FracAt H y p.1 p.2
end Ly
namespace Ly
open PySem PySem.Spec PyProof.Rows L2
def FrAll (H : Hp) : List V → List (Int × Int) → Prop
  | [], [] => True
  | v :: vs, p :: ps => (∃ y : Addr, v = V.ref y ∧ FracAt H y p.1 p.2) ∧ FrAll H vs ps
  | _, _ => False
theorem FrAll.of {H : Hp} : ∀ {ys : List V} {ps : List (Int × Int)}, ys.length = ps.length → (∀ (i : Nat) (v : V) (p : Int × Int), ys[i]? = some v → ps[i]? = some p → ∃ y : Addr, v = V.ref y ∧ FracAt H y p.1 p.2) → FrAll H ys ps
  | [], [], _, _ => trivial
  | v :: vs, p :: ps, l, h => ⟨h 0 v p rfl rfl, FrAll.of (by simpa using l) fun i w q hw hq => h (i + 1) w q hw hq⟩
  | [], _ :: _, l, _ => by cases l
  | _ :: _, [], l, _ => by cases l
theorem FrL.same {H H' : Hp} {r : Addr} {ps : List (Int × Int)} (s : Same H H') (h : FrL H r ps) : FrL H' r ps := by
  obtain ⟨ys, e, l, g⟩ := h
  refine ⟨ys, s _ _ e, l, fun i v p h1 h2 => ?_⟩
  obtain ⟨y, e2, f⟩ := g i v p h1 h2
  exact ⟨y, e2, f.same s⟩
def dF (p : Int × Int) : PyData := .tuple [.int p.1, .int p.2]
def dL (ps : List (Int × Int)) : PyData := .list (ps.map dF)
theorem FracAt.dp {K : PySem.W.Frag} {H : Hp} {r : Addr} {t b : Int} (h : FracAt H r t b) : Dp K H (.ref r) (dF (t, b)) := .tup (SqT.of h) (.cons (.int t) (.cons (.int b) .nil))
theorem FrAll.dp {K : PySem.W.Frag} {H : Hp} : ∀ {ys : List V} {ps : List (Int × Int)}, FrAll H ys ps → DpAll K H ys (ps.map dF)
  | [], [], _ => .nil
  | v :: vs, p :: ps, h => by
    obtain ⟨⟨y, rfl, f⟩, g⟩ := h
    exact .cons f.dp g.dp
  | [], _ :: _, h => by cases h
  | _ :: _, [], h => by cases h
theorem FrL.dp {K : PySem.W.Frag} {H : Hp} {r : Addr} {ps : List (Int × Int)} (h : FrL H r ps) : Dp K H (.ref r) (dL ps) := by
  obtain ⟨ys, e, l, g⟩ := h
  exact .lst (SqL.of e) (FrAll.of l g).dp
end Ly
namespace Ly
open PySem PySem.Spec PyProof.Rows L2
end Ly
namespace Ly
end Ly
namespace Ly
open PySem PySem.Spec PyProof.Rows L2
section
variable {σ : L2.St} {H : Hp} {tt uu : TT} {b c : Bool} {D : Ends}
theorem i_andB {Q : Bool → Hp → Prop} (h1 : ∀ Q : Bool → Hp → Prop, Q b H → tt σ H Q) (h2 : ∀ Q : Bool → Hp → Prop, Q c H → uu σ H Q) (q : Q (b && c) H) : tAnd tt uu σ H Q := by
  refine h1 _ ?_
  show if b = true then uu σ H Q else Q false H
  cases b with
  | true => exact iteT (h2 _ q)
  | false => exact iteF q
theorem i_orB {Q : Bool → Hp → Prop} (h1 : ∀ Q : Bool → Hp → Prop, Q b H → tt σ H Q) (h2 : ∀ Q : Bool → Hp → Prop, Q c H → uu σ H Q) (q : Q (b || c) H) : tOr tt uu σ H Q := by
  refine h1 _ ?_
  show if b = true then Q true H else uu σ H Q
  cases b with
  | true => exact iteT q
  | false => exact iteF (h2 _ q)
def rFor (j : Nat) (tb : TS) (D : Ends) (σ : L2.St) : List V → Hp → Prop := fun vs H1 => ∃ k, vs = [.int k] ∧ -2 ^ 62 ≤ k ∧ k < 2 ^ 62 ∧ ∃ W : Nat → Nat → L2.St → Hp → Prop, (∃ m, W 0 m σ H1) ∧ ∀ (i m : Nat) (σ : L2.St) (H : Hp), W i m σ H → (Itr 0 k.toNat).stop i H ∧ D.nx σ H ∨ (Itr 0 k.toNat).go i H ∧ ∃ N, (∀ (σ' : L2.St) (H' : Hp), N σ' H' → ∃ m', m' < m ∧ W (i + 1) m' σ' H') ∧ ∀ (x : V) (H' : Hp), (Itr 0 k.toNat).yld i H x H' → gName j x σ H' fun σ2 H2 => tb { nx := N, rt := D.rt, bk := D.nx, ct := N } σ2 H2
theorem i_for {j : Nat} {tb : TS} {ta : TA} (q : ta σ H fun vs H1 => rFor j tb D σ vs H1) : tFor (iRng1 ta) (gName j) tb D σ H := q
theorem i_rfor {j : Nat} {tb : TS} {n : Int} (h0 : 0 ≤ n) (h1 : n ≤ 1000) (J : Nat → L2.St → Hp → Prop) (start : J 0 σ H)
    (step : ∀ (i : Nat) σ' H', (i : Int) < n → J i σ' H' → tb { nx := J (i + 1), rt := D.rt, bk := D.nx, ct := J (i + 1) } (σ'.set j (some (.int (i : Int)))) H')
    (fin : ∀ σ' H', J n.toNat σ' H' → D.nx σ' H') : rFor j tb D σ [.int n] H := by
  refine ⟨n, rfl, by omega, by omega, fun i m σ' H' => m = n.toNat - i ∧ i ≤ n.toNat ∧ J i σ' H', ⟨_, rfl, Nat.zero_le _, start⟩, ?_⟩
  rintro i m σ' H' ⟨rfl, hi, hJ⟩
  by_cases h : i < n.toNat
  · refine .inr ⟨h, J (i + 1), fun σ2 H2 h2 => ⟨_, ?_, rfl, h, h2⟩, ?_⟩
    · omega
    · rintro x H2 ⟨rfl, rfl⟩
      have e : (0 : Int) + (i : Int) = (i : Int) := Int.zero_add _
      rw [e]
      exact step i σ' H2 (by omega) hJ
  · have e : i = n.toNat := by omega
    subst e
    exact .inl ⟨Nat.le_refl _, fin σ' H' hJ⟩
end
end Ly
namespace Ly
open PySem PySem.Spec PyProof.Rows L2
theorem Num.nl {C : Addr} {H H' : Hp} {v : V} {t b : Int} (s : NL H H') (r : Num C H v t b) : Num C H' v t b := by
  rcases r with r | ⟨a, e, r⟩
  · exact .inl r
  · exact .inr ⟨a, e, r.nl s⟩
/-- all but one list stays -/
def KL (l : Addr) (H H' : Hp) : Prop := ∀ c o, c ≠ l → H c = some o → H' c = some o
theorem Same.kl {l : Addr} {H0 H H' : Hp} (k : KL l H H') (n : H0 l = none) (s : Same H0 H) : Same H0 H' := fun c o e => k c o (ne_of_none e n) (s _ _ e)
end Ly
namespace Ly
open PySem PySem.Spec PyProof.Rows L2
theorem app_toList (x y : Str) : (x ++ y).cps.toList = x.cps.toList ++ y.cps.toList := by
  show (x.cps ++ y.cps).toList = _
  exact Array.toList_append
theorem same_upd {H : Hp} {p : Addr} {o : HO} (n : H p = none) : Same H (upd H p o) := fun c u e => by
  rw [upd_ne (ne_of_none e n)]
  exact e
end Ly
namespace Ly
open PySem PySem.Spec PyProof.Rows L2
theorem Dr.nl {p : Addr} {H H' : Hp} (k : Dr p H H') : NL H H' := fun q o n e => k.keep q o (k.ne e fun a b z => n _ z) e
theorem Dr.upd {p q : Addr} {H H' : Hp} {o : HO} (k : Dr p H H') (h : H q = none) (n : q ≠ p) : Dr p H (upd H' q o) := k.mut h n
section
variable {K : PySem.W.Frag} {σ : L2.St} {H : Hp} {Q : VK} {te : TE} {tt : TT} {p : Addr} {xs : List V} {n j : Nat} {vs : List Nat}
def rLc (J : L2.It) (g : TG) (tt : TT) (te : TE) (vs : List Nat) (σ : L2.St) (H1 : Hp) (Q : VK) : Prop := ∀ D : Addr, H1 D = none → ∃ W : Nat → Nat → Hp → Prop, (∃ m, W 0 m (L2.upd H1 D (.lst []))) ∧ ∀ (i m : Nat) (H : Hp), W i m H → J.stop i H ∧ Q (.ref D) H ∨ J.go i H ∧ ∃ Nx : Hp → Prop, (∀ H', Nx H' → ∃ m', m' < m ∧ W (i + 1) m' H') ∧
  ∀ (x : V) (H' : Hp), J.yld i H x H' → g x (wipe σ vs) H' fun σ2 H2 => wipe σ2 vs = wipe σ vs ∧ tt σ2 H2 fun b H3 => if b = true then te σ2 H3 fun y H4 => ∃ acc, H4 D = some (.lst acc) ∧ acc.length < sizeLine ∧ Nx (L2.upd H4 D (.lst (acc ++ [y]))) else Nx H3
def rLcR (g : TG) (tt : TT) (te : TE) (ws : List Nat) (σ : L2.St) : List V → Hp → VK → Prop := fun vs H1 Q => ∃ k, vs = [.int k] ∧ -2 ^ 62 ≤ k ∧ k < 2 ^ 62 ∧ rLc (Itr 0 k.toNat) g tt te ws σ H1 Q
theorem i_lcr {g : TG} {ta : TA} (q : ta σ H fun vs' H1 => rLcR g tt te vs σ vs' H1 Q) : tLc (iRng1 ta) g tt te vs σ H Q := q
def rLcL (K : PySem.W.Frag) (g : TG) (tt : TT) (te : TE) (ws : List Nat) (σ : L2.St) : V → Hp → VK → Prop := fun x H1 Q => ∃ a, x = .ref a ∧ (∃ xs, SqL K H1 a xs) ∧ rLc (Itl K a) g tt te ws σ H1 Q
theorem i_lcl {g : TG} {tl : TE} (q : tl σ H fun x H1 => rLcL K g tt te vs σ x H1 Q) : tLc (iList K tl) g tt te vs σ H Q := q
/-- over a range, drawing -/
theorem i_rlcRp {m : Int} (G : Nat → Hp → V → Prop) (hp : Pot H p) (h0 : 0 ≤ m) (h1 : m ≤ 1000) (mono : ∀ i H1 H2 v, NL H1 H2 → G i H1 v → G i H2 v) (hw : ∀ x, wipe ((wipe σ vs).set j (some x)) vs = wipe σ vs)
    (turn : ∀ (i : Nat) H' (Q' : VK), (i : Int) < m → Dr p H H' → (∀ y H4, Dr p H' H4 → G i H4 y → Q' y H4) → te ((wipe σ vs).set j (some (.int (i : Int)))) H' Q')
    (fin : ∀ r H' ys, H r = none → Dr p H H' → H' r = some (.lst ys) → ys.length = m.toNat → (∀ i v, ys[i]? = some v → G i H' v) → Q (.ref r) H') : rLcR (gName j) tYes te vs σ [.int m] H Q := by
  refine ⟨m, rfl, by omega, by omega, fun D nD => ?_⟩
  have ne := fresh_ne hp nD
  have d0 : Dr p H (L2.upd H D (.lst [])) := (Dr.refl hp).mut nD ne
  refine lc_range (lo := 0) (n := m.toNat) (fun i H' => ∃ ys, H' D = some (.lst ys) ∧ ys.length = i ∧ i ≤ m.toNat ∧ Dr p H H' ∧ ∀ k v, ys[k]? = some v → G k H' v)
    ⟨[], upd_same, rfl, Nat.zero_le _, d0, fun m v e => by simp at e⟩ ?_ ?_
  · rintro i H' hi ⟨ys, hD, hy, hle, d, g⟩
    have e0 : (0 : Int) + (i : Int) = (i : Int) := Int.zero_add _
    rw [e0]
    refine ⟨hw _, ?_⟩
    show te ((wipe σ vs).set j (some (.int (i : Int)))) H' _
    refine turn i H' _ (by omega) d fun y H4 d4 gy => ?_
    have hD4 := d4.keep D _ ne hD
    refine ⟨ys, hD4, by rw [hy]; exact small1000 (by omega), ys ++ [y], upd_same, by rw [List.length_append, hy]; rfl, hi, (d.trans d4).mut nD ne, fun k v e => ?_⟩
    have kk := NL.upd (ys := ys ++ [y]) hD4
    rcases Nat.lt_or_ge k ys.length with h | h
    · rw [List.getElem?_append_left h] at e
      exact mono k _ _ v kk (mono k _ _ v d4.nl (g k v e))
    · rw [List.getElem?_append_right h] at e
      have : k - ys.length = 0 := by
        have := (List.getElem?_eq_some_iff.mp e).1
        simp at this
        omega
      rw [this] at e
      have e2 : y = v := Option.some.inj e
      subst e2
      have : k = i := by omega
      subst this
      exact mono _ _ _ y kk gy
  · rintro H' ⟨ys, hD, hy, _, d, g⟩
    exact fin D H' ys nD d hD hy g
/-- over a list, filtered, nothing changes but what is new -/
theorem i_rlcF {l : Addr} (P : V → Bool) (f : V → V) (hl : SqL K H l xs) (keep : ∀ H', Same H H' → SqL K H' l xs) (hz : xs.length ≤ 1000) (hw : ∀ x, wipe ((wipe σ vs).set j (some x)) vs = wipe σ vs)
    (test : ∀ x H' (R : Bool → Hp → Prop), x ∈ xs → Same H H' → R (P x) H' → tt ((wipe σ vs).set j (some x)) H' R)
    (elt : ∀ x H' (Q' : VK), x ∈ xs → P x = true → Same H H' → (∀ H4, Same H' H4 → Q' (f x) H4) → te ((wipe σ vs).set j (some x)) H' Q')
    (fin : ∀ r H', H r = none → Same H H' → H' r = some (.lst ((xs.filter P).map f)) → Q (.ref r) H') : rLcL K (gName j) tt te vs σ (.ref l) H Q := by
  refine ⟨l, rfl, ⟨xs, hl⟩, fun D nD => ?_⟩
  have same0 : Same H (L2.upd H D (.lst [])) := fun c o e => by
    rw [upd_ne (ne_of_none e nD)]
    exact e
  refine lc_list (K := K) (a := l) (xs := xs) (fun i H' => H' D = some (.lst (((xs.take i).filter P).map f)) ∧ Same H H') ⟨by simp [upd_same], same0⟩ (fun i H' _ h => keep H' h.2) ?_ ?_
  · rintro i x H' hi ⟨hD, s⟩
    have hlt : i < xs.length := (List.getElem?_eq_some_iff.mp hi).1
    have hx : x ∈ xs := List.mem_of_getElem? hi
    have ht : xs.take (i + 1) = xs.take i ++ [x] := by
      rw [List.take_add_one, hi]
      rfl
    have hle : (((xs.take i).filter P).map f).length < sizeLine := by
      rw [List.length_map]
      have h1 := List.length_filter_le P (xs.take i)
      have h2 := List.length_take_le i xs
      exact small1000 (by omega)
    refine ⟨hw _, ?_⟩
    show tt ((wipe σ vs).set j (some x)) H' _
    refine test x H' _ hx s ?_
    by_cases hP : P x = true
    · rw [if_pos hP]
      refine elt x H' _ hx hP s fun H4 s4 => ⟨_, s4 _ _ hD, hle, ?_, ?_⟩
      · rw [ht, List.filter_append, List.map_append, List.filter_cons, if_pos hP]
        exact upd_same
      · intro c o e
        rw [upd_ne (ne_of_none e nD)]
        exact s4 _ _ (s _ _ e)
    · rw [if_neg hP]
      refine ⟨?_, s⟩
      rw [ht, List.filter_append, List.map_append, List.filter_cons, if_neg hP]
      simpa using hD
  · rintro H' ⟨hD, s⟩
    rw [List.take_length] at hD
    exact fin D H' nD s hD
/-- over a range, nothing changes but what is new -/
theorem i_rlcRF {m : Int} (f : Nat → V) (h0 : 0 ≤ m) (h1 : m ≤ 1000) (hw : ∀ x, wipe ((wipe σ vs).set j (some x)) vs = wipe σ vs)
    (elt : ∀ (i : Nat) H' (Q' : VK), (i : Int) < m → Same H H' → (∀ H4, Same H' H4 → Q' (f i) H4) → te ((wipe σ vs).set j (some (.int (i : Int)))) H' Q')
    (fin : ∀ r H', H r = none → Same H H' → H' r = some (.lst ((List.range m.toNat).map f)) → Q (.ref r) H') : rLcR (gName j) tYes te vs σ [.int m] H Q := by
  refine ⟨m, rfl, by omega, by omega, fun D nD => ?_⟩
  have same0 : Same H (L2.upd H D (.lst [])) := fun c o e => by
    rw [upd_ne (ne_of_none e nD)]
    exact e
  refine lc_range (lo := 0) (n := m.toNat) (fun i H' => i ≤ m.toNat ∧ H' D = some (.lst ((List.range i).map f)) ∧ Same H H') ⟨Nat.zero_le _, by simp [upd_same], same0⟩ ?_ ?_
  · rintro i H' hi ⟨hle, hD, s⟩
    have e0 : (0 : Int) + (i : Int) = (i : Int) := Int.zero_add _
    rw [e0]
    refine ⟨hw _, ?_⟩
    show te ((wipe σ vs).set j (some (.int (i : Int)))) H' _
    refine elt i H' _ (by omega) s fun H4 s4 => ⟨_, s4 _ _ hD, ?_, hi, ?_, ?_⟩
    · rw [List.length_map, List.length_range]
      exact small1000 (by omega)
    · rw [List.range_succ, List.map_append]
      exact upd_same
    · intro c o e
      rw [upd_ne (ne_of_none e nD)]
      exact s4 _ _ (s _ _ e)
  · rintro H' ⟨_, hD, s⟩
    exact fin D H' nD s hD
end
section
variable {K : PySem.W.Frag} {σ : L2.St} {H : Hp} {Q : VK} {l : Addr} {xs : List V} {ys : List Str} {x y : Str} {v : V} {ta tb : TE} {t : TA}
theorem inV_strs (x : Str) (ys : List Str) : inV (.str x) (ys.map V.str) = decide (x ∈ ys) := by
  induction ys with
  | nil => rfl
  | cons y ys ih =>
    have e : inV (.str x) ((y :: ys).map V.str) = (y == x || inV (.str x) (ys.map V.str)) := rfl
    rw [e, ih]
    by_cases h : y = x
    · subst h
      simp
    · have h2 : ¬ x = y := fun z => h z.symm
      simp [h, h2]
theorem flat_strs (ys : List Str) : (ys.map V.str).all flatV = true := by
  induction ys with
  | nil => rfl
  | cons y ys ih => simp [flatV] at ih ⊢
theorem i_inS (h : H l = some (.lst (ys.map V.str))) (q : Q (.bl (decide (x ∈ ys))) H) : rIn K false (.str x) (.ref l) H Q := ⟨l, _, rfl, .inl (SqL.of h), rfl, flat_strs ys, by rw [inV_strs]; exact q⟩
theorem i_niS (h : H l = some (.lst (ys.map V.str))) (q : Q (.bl (!decide (x ∈ ys))) H) : rIn K true (.str x) (.ref l) H Q := ⟨l, _, rfl, .inl (SqL.of h), rfl, flat_strs ys, by rw [inV_strs]; exact q⟩
def rJoin (K : PySem.W.Frag) : V → List V → Hp → VK → Prop := fun x xs H Q => ∃ a p, ∃ ys : List Str, x = .str a ∧ xs = [.ref p] ∧ (SqL K H p (ys.map V.str) ∨ SqT K H p (ys.map V.str)) ∧ (ys.map (·.length)).sum + ys.length * a.length ≤ 16777216 ∧ Q (.str (Txt.join a ys)) H
theorem i_join {a : Str} (h : H l = some (.lst (ys.map V.str))) (z : (ys.map (·.length)).sum + ys.length * a.length ≤ 16777216) (q : Q (.str (Txt.join a ys)) H) : rJoin K (.str a) [.ref l] H Q := ⟨a, l, ys, rfl, rfl, .inl (SqL.of h), z, q⟩
theorem i_tM1 {r : V → List V → Hp → VK → Prop} (q : ta σ H fun x H1 => (∃ a, x = .str a) ∧ tb σ H1 fun y H2 => r x [y] H2 Q) : tM1 r ta tb σ H Q := q
theorem i_tBM {T : String} {r : V → List V → Hp → VK → Prop} (q : ta σ H fun x H1 => tyV K T x H1 ∧ t σ H1 fun vs H2 => r x vs H2 Q) : tBM K T r ta t σ H Q := q
theorem ty_lst (h : H l = some (.lst xs)) : tyV K "list" (.ref l) H := .inl ⟨rfl, _, SqL.of h⟩
theorem i_append (h : H l = some (.lst xs)) (z : xs.length ≤ 1000) (q : ∀ H', NL H H' → KL l H H' → H' l = some (.lst (xs ++ [v])) → Q .non H') : rAppend (.ref l) [v] H Q := ⟨l, xs, v, rfl, rfl, h, small1000 z, q _ (NL.upd h) (fun c o n e => by rw [upd_ne n]; exact e) upd_same⟩
theorem i_popAt {k : Nat} (h : H l = some (.lst xs)) (z : xs.length ≤ 1000) (e : xs[k]? = some v) (q : ∀ H', NL H H' → KL l H H' → H' l = some (.lst (xs.eraseIdx k)) → Q v H') : rPopAt (.ref l) [.int k] H Q := by
  have hk : k < xs.length := (List.getElem?_eq_some_iff.mp e).1
  refine ⟨l, xs, (k : Int), k, v, rfl, rfl, h, by omega, by omega, ?_, e, q _ (NL.upd h) (fun c o n e => by rw [upd_ne n]; exact e) upd_same⟩
  unfold seqIndex?
  simp
  omega
theorem i_ixS {z : Str} {c : Nat} {i : Nat} (hz : z.length ≤ 1000) (e : z.cps.toList[i]? = some c) (q : Q (.str ⟨#[c]⟩) H) : rIx K (.str z) (.int i) H Q := .inr (.inr ⟨z, (i : Int), c, rfl, rfl, Nat.le_of_lt (small1000 hz), atI_nat e, q⟩)
end
section
variable {X : Cx} {K : PySem.W.Frag} {o e : Expr} {es : List Expr} {to te : TE} {t : TA} {name : Str} {apos cpos : Pos} {T id : String} {r : V → List V → Hp → VK → Prop}
theorem pe_bmK (hK : X.K = K) (pa : PlainAttrs T) (sl : Slot T name id) (ty : typeOf (Value.builtin id) = pure (Value.type "method_descriptor")) (m : MtR X id r) (he : PE X o to) (ha : PA X (e :: es) t)
    (h1 : attributeBase o name X.env (eval o X.env) = eval o X.env := by rfl)
    (h2 : (((backTo cpos (starEach (e :: es) X.env)).all fun x => !x.1) && ((backToKw cpos (keywordEach [] X.env)).all fun x => x.1.isSome) && decide ((e :: es).length + ([] : List Keyword).length + (if ([] : List Keyword).isEmpty = true then 0 else 1) < 30)) = true := by rfl)
    (h3 : (apos.endLine == cpos.line) = true := by rfl) (h4 : starEach (e :: es) X.env = (false, eval e X.env) :: starEach es X.env := by rfl) (h5 : ((backTo cpos (starEach es X.env)).any fun x => x.1) = false := by rfl) :
    PE X (.Call (.Attribute o name apos) (e :: es) [] cpos) (tBM K T r to t) := by
  subst hK
  exact pe_bm pa sl ty m he ha h1 h2 h3 h4 h5
theorem pe_joinK (hK : X.K = K) (he : PE X o to) (ha : PE X e te) (h4 : starEach [e] X.env = [(false, eval e X.env)] := by rfl)
    (h1 : attributeBase o "join" X.env (eval o X.env) = eval o X.env := by rfl) (h3 : (apos.endLine == cpos.line) = true := by rfl) :
    PE X (.Call (.Attribute o "join" apos) [e] [] cpos) (tM1 (rJoin K) to te) := by
  subst hK
  exact pe_join he ha h4 h1 h3
theorem pi_listK {tg : Expr} (hK : X.K = K) (he : PE X e te) : PI X tg e (iList K te) := by
  subst hK
  exact pi_list he
end
def rListOf (K : PySem.W.Frag) : List V → Hp → VK → Prop := fun xs H Q => ∃ p ys, xs = [.ref p] ∧ (SqL K H p ys ∨ SqT K H p ys) ∧ ∀ l : Addr, H l = none → Q (.ref l) (upd H l (.lst ys))
theorem call_listU {X : Cx} : CallR X (.type "list") (rListOf X.K) := call_list_of
theorem i_listL {K : PySem.W.Frag} {H : Hp} {Q : VK} {p : Addr} {ys : List V} (h : H p = some (.lst ys)) (q : ∀ l H', H l = none → H' l = some (.lst ys) → Same H H' → Q (.ref l) H') : rListOf K [.ref p] H Q := ⟨p, ys, rfl, .inl (SqL.of h), i_new q⟩
theorem i_yes {σ : L2.St} {H : Hp} {R : Bool → Hp → Prop} (q : R true H) : tYes σ H R := q
theorem erase_perm {α : Type} : ∀ {xs : List α} {k : Nat} (h : k < xs.length), ([xs[k]] ++ xs.eraseIdx k).Perm xs
  | x :: xs, 0, _ => List.Perm.refl _
  | x :: xs, k + 1, h => by
    have hk : k < xs.length := by simpa using h
    have ih := erase_perm (xs := xs) (k := k) hk
    show (xs[k] :: x :: xs.eraseIdx k).Perm (x :: xs)
    exact (List.Perm.swap x xs[k] _).trans (ih.cons x)
theorem i_bor {p q A B : Prop} [Decidable p] [Decidable q] (h1 : A) (h2 : ¬ p → ¬ q → B) : if (decide p || decide q) = true then A else B := by
  by_cases hp : p
  · rw [decide_eq_true hp]
    exact iteT h1
  · by_cases hq : q
    · rw [decide_eq_true hq, Bool.or_true]
      exact iteT h1
    · rw [decide_eq_false hp, decide_eq_false hq]
      exact iteF (h2 hp hq)
section
variable {σ : L2.St} {H : Hp} {Q : VK} {K : PySem.W.Frag} {te : TE} {tl th : TO} {r : V → Option Int → Option Int → Hp → VK → Prop} {p : Addr} {xs : List V}
theorem i_sl (q : te σ H fun x H1 => tl σ H1 fun l H2 => th σ H2 fun u H3 => r x l u H3 Q) : tSl r te tl th σ H Q := q
theorem i_noPart {R : Option Int → Hp → Prop} (q : R none H) : tNoPart σ H R := q
theorem i_part {R : Option Int → Hp → Prop} (q : te σ H fun x H1 => ∃ i, x = .int i ∧ R (some i) H1) : tPart te σ H R := q
end
end Ly
namespace Ly
open PySem PySem.Spec PyProof.Rows L2
structure FnG (P : Program) (w : World) (K : PySem.W.Frag) (mg : Str → Option Value) (base : Heap) (k : Nat) (f : Addr) (fd : FuncData) (ps : List Str) (sp : Sp) : Prop where
  len : ∀ vs H Q E, sp vs H Q E → vs.length = ps.length
  run : ∀ (A : Around) (outer : List Env) (s : Shared) (H : Hp) (args : Args) (us : List Value) (vs : List V) (Q : VK) (E : XK),
    Room k A → A.guards = some [] → Env0 P w K mg base A outer s H → BindsTo s fd args (ps.zip us) → Vals vs us → sp vs H Q E → codeAny (model P w) A (.call (.ref f) args) (CR CX0 outer P w H s Q E) s
theorem FnG.mono {P : Program} {w : World} {K : PySem.W.Frag} {mg : Str → Option Value} {base : Heap} {k j : Nat} {f : Addr} {fd : FuncData} {ps : List Str} {sp : Sp} (F : FnG P w K mg base k f fd ps sp) (h : k ≤ j) : FnG P w K mg base j f fd ps sp :=
  ⟨F.len, fun A outer s H args us vs Q E hr hg => F.run A outer s H args us vs Q E (hr.mono h) hg⟩
/-- a plain one is one -/
theorem FnG.of {P : Program} {w : World} {K : PySem.W.Frag} {mg : Str → Option Value} {base : Heap} {k : Nat} {f : Addr} {fd : FuncData} {ps : List Str} {sp : Sp} (F : FnOk P w K mg base CX0 k f fd ps sp) : FnG P w K mg base k f fd ps sp :=
  ⟨F.len, fun A outer s H args us vs Q E hr _ => F.run A outer s H args us vs Q E hr⟩
theorem fng_of {P : Program} {w : World} {K : PySem.W.Frag} {mg : Str → Option Value} {base : Heap} {k : Nat} {f : Addr} {name qual : Str} {params : Arguments} {body : List Stmt} {scope : Scope} {dV kV doc pm cdv ct oc : Value} {an od : Option Addr} {osl : Array (Option Value)} {N ps : List Str} {sp : Sp}
    (lk : K.lookup f = some ⟨oc, od, .func (PySem.W.fnOf name qual params body scope dV kV doc pm an cdv ct), osl⟩) (hcd : PySem.W.codeIn K cdv qual = true) (S : FnScope N ps scope) (len : ∀ vs H Q E, sp vs H Q E → vs.length = ps.length)
    (hbody : ∀ (A : Around) (outer : List Env) (s : Shared) (H : Hp) (vs : List V) (Q : VK) (E : XK), Room k (A.deeper (envOfC qual scope s.heap.objs.size f cdv)) → A.guards = some [] → sp vs H Q E →
      ∃ t, PSs (cxOf CX0 P w K mg base N qual scope f cdv A outer s H E) body t ∧ t { nx := fun _ H' => Q .non H', rt := Q } (L2.start N vs) H) :
    FnG P w K mg base (k + 1) f (PySem.W.fnOf name qual params body scope dV kV doc pm an cdv ct) ps sp := by
  refine ⟨len, fun A outer s H args us vs Q E hr hg e0 hb r hsp => ?_⟩
  have hl := len vs H Q E hsp
  have KX := PySem.W.Frag.In.keeps e0.mod.kin fun b o e => (e0.bs b o e).1
  have lim := Heap.NoLimit.keeps e0.mod.nolimit fun b o e => (e0.bs b o e).1
  have hkind : ∀ x : Str × Value, x ∈ ps.zip us → List.lookup x.1 scope.names = some NameKind.local ∨ List.lookup x.1 scope.names = some NameKind.cell ∧ (List.lookup x.1 (cellsFrom (s.heap.objs.size + 1) scope.names [])).isSome = true := fun x hy => by
    obtain ⟨n, v⟩ := x
    rcases S.par n (List.of_mem_zip hy).1 with q | q
    · exact Or.inl q
    · exact Or.inr ⟨q, PySem.W.cellsFrom_some scope.names (s.heap.objs.size + 1) [] (Or.inl q)⟩
  refine codeAny_call_function (Room.depth hr) (KX f _ lk) rfl S.co S.gen rfl (PySem.W.codeRec_of KX hcd) (hb (model P w) A.in1 _ _ ?_)
  refine wpAny_newFunctionEnv_cells S.kind hkind fun env he s1 x => ?_
  subst he
  refine ⟨Heap.NoLimit.keeps lim x.toInCall.keep, codeAny_func ?_⟩
  obtain ⟨t, ht, hq⟩ := hbody A outer s H vs Q E (Room.deeper hr (envOfC qual scope s.heap.objs.size f cdv)) hg hsp
  have I := inv_start (CX := CX0) (E := E) S hr.hd e0 hl r x
  refine wpAny_mono (ht.run [] s1 (L2.start N vs) H _ I hq) (fun fl s' hs => ?_) fun e s' hs => hs
  cases fl with
  | next =>
    obtain ⟨σ', H', J, q⟩ := hs
    exact ⟨.non, H', J.os, J.bare, J.base, J.hok, rfl, q⟩
  | brk =>
    obtain ⟨_, _, _, q⟩ := hs
    exact q.elim
  | cont =>
    obtain ⟨_, _, _, q⟩ := hs
    exact q.elim
  | ret u =>
    obtain ⟨v, σ', H', J, rv, q⟩ := hs
    exact ⟨v, H', J.os, J.bare, J.base, J.hok, rv, q⟩
section
variable {X : Cx} {k j : Nat} {f : Addr} {fd : FuncData} {ps : List Str} {sp : Sp} {pins : List (Addr × Obj)} {σ : L2.St} {H : Hp} {s : Shared} {Q : VK} {us : List Value} {vs : List V}
theorem run_fng (F : FnG X.prog X.w X.K X.mg X.base k f fd ps sp) (hr : Room k X.A) (hg : X.A.guards = some []) (hb : Binds X.K fd ps []) (I : Inv X pins σ H s) (r : Vals vs us) (h : sp vs H Q E0) :
    wpAny (model X.prog X.w) X.A (call (.ref f) us) (EP X pins σ Q) X.xe s := by
  have hl := F.len vs H Q E0 h
  refine wpAny_call (codeAny_mono (F.run X.A X.stack s H ⟨us, []⟩ us vs Q E0 hr hg I.env0 ?_ r h) fun r' s' hq => ?_)
  · have := hb s us I.kIn (by rw [List.append_nil, ← r.length]; exact hl)
    rw [List.append_nil] at this
    exact this
  · match r', hq with
    | .error e, hq => exact pass0 pins σ H s e s' I hq
    | .ok .next, hq => exact hq.elim
    | .ok .brk, hq => exact hq.elim
    | .ok .cont, hq => exact hq.elim
    | .ok (.ret u), hq => exact Inv.after I hq
end
/-- a def that may be called by its name, where no repr is under way -/
structure ClG (W : Wd) (k : Nat) (x : Str) (sp : Sp) : Prop where
  ex : ∃ (f : Addr) (fd : FuncData) (ps : List Str), FnG W.P W.w W.K W.mg W.base k f fd ps sp ∧ W.mg x = some (.ref f) ∧ PySem.W.keepIn W.K (.ref f) = true ∧ Binds W.K fd ps []
/-- a body that may show lists -/
def BodyG (W : Wd) (k : Nat) (N : List Str) (qual : Str) (st : Stmt) (sp : Sp) : Prop :=
  ∀ (f : Addr) (cdv : Value) (A : Around) (outer : List Env) (s : Shared) (H : Hp) (vs : List V) (Q : VK) (E : XK), Room k (A.deeper (envOfC qual (defScope st) s.heap.objs.size f cdv)) → (A.deeper (envOfC qual (defScope st) s.heap.objs.size f cdv)).guards = some [] → sp vs H Q E →
      ∃ t, PSs (cxOf CX0 W.P W.w W.K W.mg W.base N qual (defScope st) f cdv A outer s H E).nox (defBody st) t ∧ t { nx := fun _ H' => Q .non H', rt := Q } (start N vs) H
theorem fng_fun {W : Wd} {k : Nat} {x qual : Str} {st : Stmt} {f : Addr} {fd : FuncData} {N ps : List Str} {sp : Sp} (F : L2.Fun W.K x qual st f fd) (S : FnScope N ps (defScope st)) (len : ∀ vs H Q E, sp vs H Q E → vs.length = ps.length) (hbody : BodyG W k N qual st sp) : FnG W.P W.w W.K W.mg W.base (k + 1) f fd ps sp := by
  obtain ⟨oc, od, kV, doc, pm, an, cdv, ct, osl, rfl, lk, hcd⟩ := F.ex
  refine fng_of lk hcd S len fun A outer s H vs Q E hr hg hsp => ?_
  obtain ⟨t, h, q⟩ := hbody f cdv A outer s H vs Q E hr hg hsp
  exact ⟨t, h.nox, q⟩
theorem clg_of {W : Wd} {k : Nat} {x : Str} {st : Stmt} {N ps : List Str} {sp : Sp} (g : GF W.K W.mg x st) (S : FnScope N ps (defScope st)) (hb : BindOk x x st ps) (len : ∀ vs H Q E, sp vs H Q E → vs.length = ps.length) (hbody : BodyG W k N x st sp) : ClG W (k + 1) x sp := by
  obtain ⟨f, fd, F, hm⟩ := g.ex
  exact ⟨f, fd, ps, fng_fun F S len hbody, hm, F.kp, F.binds hb⟩
section
variable {X : Cx} {k j : Nat} {x : Str} {sp : Sp} {p pos : Pos} {e : Expr} {es : List Expr} {t : TA}
theorem pe_clG (c : ClG ⟨X.prog, X.w, X.K, X.mg, X.base⟩ k x sp) (hr : Room j X.A) (hgd : X.A.guards = some []) (hk : k ≤ j) (hg : Gl X x) (ha : PA X (e :: es) t)
    (hdb : (x == ("__debug__" : Str)) = false := by decide) (he : starEach (e :: es) X.env = (false, eval e X.env) :: starEach es X.env := by rfl) (hpl : (backTo pos (starEach es X.env)).any (·.1) = false := by rfl) :
    PE X (.Call (.Name x p) (e :: es) [] pos) (tCall sp [] E0 t) := by
  obtain ⟨f, fd, ps, F, hm, kp, b⟩ := c.ex
  refine ⟨fun pins s σ H Q I h => wpAny_Call_Name_kw (ld_glob I hg hm (PySem.W.callWith_K I.ok.mod.kin kp (thn (ha.run pos pins s σ H _ I h) fun us s1 x => ?_) he hpl) hdb)⟩
  obtain ⟨vs, H1, I1, r, q⟩ := x
  rw [List.append_nil] at q
  exact ⟨I1.kIn, run_fng F (hr.mono hk) hgd b I1 r q⟩
end
end Ly
namespace Ly
open PySem PySem.Spec PyProof.Rows L2
/-- the law's call: of a def that may show lists -/
theorem law_callG {P : Program} {w : World} {K : PySem.W.Frag} {mg mb : Str → Option Value} {k : Nat} {fa a : Addr} {fd : FuncData} {x : Str} {sp : Sp} {s₁ : Shared} {vs : List Value} {ns : List Int}
    (KX : K.In s₁.heap) (hns : s₁.heap.Ns mainGlobals mg) (hb : s₁.heap.Ns builtinsNs mb) (hbb : ∀ x : Str, x ≠ "__name__" → mb x = bootBuiltins x) (hlim : s₁.heap.NoLimit) (hgen : s₁.gens = #[])
    (ha : s₁.heap.get? a = some { cls := .type "list", data := .seq vs.toArray }) (hi : IntsAre vs ns) (hl : ns.length ≤ sizeLine) (hr : Room k callerA)
    (F : ∀ base : Heap, K.In base → base.Ns mainGlobals mg → FnG P w K mg base k fa fd [x] sp) (hbind : ∀ (s : Shared) (u : Value), BindsTo s fd ⟨[u], []⟩ [(x, u)])
    (hsp : ∀ H : Hp, Only H → SqL K H a (ns.map V.int) → sp [.ref a] H (fun v _ => v = .bl true) fun _ _ _ => False) :
    codeAny (model P w) callerA (.call (.ref fa) ⟨[.ref a], []⟩) (fun r s' => r = .ok (.ret (.bool true)) ∧ OldK s₁.heap s'.heap ∧ s'.os = s₁.os ∧ AllBare s'.gens) s₁ := by
  have rv := vals_ints hi
  have lenV := IntsAre.length hi
  have core : ∀ H : Hp, Only H → SqL K H a (ns.map V.int) → HOk P w H s₁.heap → (∀ b, H b ≠ none → b = a) → (H a ≠ none → K.lookup a = none) →
      codeAny (model P w) callerA (.call (.ref fa) ⟨[.ref a], []⟩) (fun r s' => r = .ok (.ret (.bool true)) ∧ OldK s₁.heap s'.heap ∧ s'.os = s₁.os ∧ AllBare s'.gens) s₁ := by
    intro H hO hS hok hA hK
    have noA : ∀ {b : Addr} {o : Obj} {es : Array DictEntry} {ep : Nat}, s₁.heap.get? b = some o → o.data = .dict es ep → H b = none := by
      intro b o es ep e d
      cases q : H b with
      | none => rfl
      | some u =>
        have eb := hA b (by rw [q]; exact Option.some_ne_none _)
        subst eb
        rw [ha] at e
        cases e
        cases d
    have nsK : ∀ {b : Addr} {m : Str → Option Value}, s₁.heap.Ns b m → (hidT s₁.heap H).Ns b m := by
      rintro b m ⟨o, es, ep, e, d, r⟩
      exact ⟨o, es, ep, hidT_get e (noA e d), d, r⟩
    have hKb : K.In (hidT s₁.heap H) := by
      intro b o e
      refine hidT_get (KX b o e) ?_
      cases q : H b with
      | none => rfl
      | some u =>
        have n : H b ≠ none := by rw [q]; exact Option.some_ne_none _
        have eb := hA b n
        subst eb
        rw [hK n] at e
        cases e
    have hM : Mod K mg (hidT s₁.heap H) := ⟨hKb, nsK hns, ⟨mb, nsK hb, hbb⟩, by
      obtain ⟨mc, h1, h2⟩ := hlim
      exact ⟨mc, nsK h1, h2⟩⟩
    have e0 : Env0 P w K mg (hidT s₁.heap H) callerA [] s₁ H := ⟨rfl, hM, fun b o e => of_hidT e, Nat.le_of_eq (hidT_size s₁.heap H), trivial, fun b z => (by cases z), hok, AllBare.of_eq hgen⟩
    refine codeAny_mono ((F (hidT s₁.heap H) hKb (nsK hns)).run callerA [] s₁ H ⟨[.ref a], []⟩ [.ref a] [.ref a] (fun v _ => v = .bl true) (fun _ _ _ => False) hr rfl e0 (hbind s₁ (.ref a)) (.cons rfl .nil) (hsp H hO hS)) ?_
    intro r s' h
    match r, h with
    | .error e, h => exact (show False from h).elim
    | .ok .next, h => exact h.elim
    | .ok .brk, h => exact h.elim
    | .ok .cont, h => exact h.elim
    | .ok (.ret u), h =>
      obtain ⟨v, H', os, bare, un, hok', r', q⟩ := h
      subst q
      obtain rfl : u = .bool true := r'
      refine ⟨rfl, OldK.of_keep fun b o e => ?_, os, bare⟩
      cases q : H b with
      | none => exact un.keep b o e q (by simp [frs]) (by simp)
      | some u =>
        rcases hO b with z | ⟨ob, xs, z⟩
        · rw [q] at z
          cases z
        · have z2 := un.frzs b ob (.lst xs) z
          obtain ⟨e1, _⟩ := hok b (.frz ob (.lst xs)) z
          obtain ⟨e2, _⟩ := hok' b (.frz ob (.lst xs)) z2
          rw [e] at e1
          cases e1
          exact e2
  cases hk : K.lookup a with
  | none =>
    refine core (fun b => if b = a then some (.frz { cls := .type "list", data := .seq vs.toArray } (.lst (ns.map V.int))) else none) (fun b => ?_) ?_ (fun b u z => ?_) (fun b z => ?_) fun _ => hk
    · by_cases h : b = a
      · exact .inr ⟨_, _, if_pos h⟩
      · exact .inl (if_neg h)
    · exact .inl (.inr ⟨_, if_pos rfl⟩)
    · by_cases h : b = a
      · subst h
        have z' : some (HO.frz { cls := .type "list", data := .seq vs.toArray } (.lst (ns.map V.int))) = some u := (if_pos rfl).symm.trans z
        cases z'
        exact ⟨ha, by rw [List.length_map]; exact hl, vs, 0, rv, ha⟩
      · have z' : none = some u := (if_neg h).symm.trans z
        cases z'
    · by_cases h : b = a
      · exact h
      · exact absurd (if_neg h) z
  | some o =>
    have e := KX a o hk
    rw [ha] at e
    cases e
    refine core (fun _ => none) (fun _ => .inl rfl) (.inr ⟨_, vs.toArray, 0, hk, rfl, rfl, rfl, ?_, rv⟩) (fun b u z => by cases z) (fun b z => absurd rfl z) fun z => absurd rfl z
    rw [List.size_toArray, lenV]
    exact hl
end Ly
namespace Dt
open PySem PySem.Spec PyProof.Rows L2 Ly
inductive D where
  | int (i : Int) | bl (b : Bool) | non | str (s : Str)
  | lst (xs : List D) | tup (xs : List D)
  | dct (kv : List (Key × D)) | dcT (kv : List (List Key × D))
  | obj (C : Addr) (fs : List (Str × D))
mutual
inductive At (H : Hp) : V → D → Prop
  | int (i : Int) : At H (.int i) (.int i)
  | bl (b : Bool) : At H (.bl b) (.bl b)
  | non : At H .non .non
  | str (s : Str) : At H (.str s) (.str s)
  | lst {p : Addr} {xs : List V} {ds : List D} (h : H p = some (.lst xs)) (a : Ats H xs ds) : At H (.ref p) (.lst ds)
  | tup {p : Addr} {xs : List V} {ds : List D} (h : H p = some (.tup xs)) (a : Ats H xs ds) : At H (.ref p) (.tup ds)
  | dct {p : Addr} {kv : List (Key × V)} {kd : List (Key × D)} (h : Rd H p (.dK kv)) (e : kv.map (·.1) = kd.map (·.1)) (a : Ats H (kv.map (·.2)) (kd.map (·.2))) : At H (.ref p) (.dct kd)
  | dcT {p : Addr} {kv : List (List Key × V)} {kd : List (List Key × D)} (h : Rd H p (.dT kv)) (e : kv.map (·.1) = kd.map (·.1)) (a : Ats H (kv.map (·.2)) (kd.map (·.2))) : At H (.ref p) (.dcT kd)
  | obj {p C dx : Addr} {fs : List (Str × V)} {fd : List (Str × D)} (h : H p = some (.ins C dx fs)) (e : fs.map (·.1) = fd.map (·.1)) (a : Ats H (fs.map (·.2)) (fd.map (·.2))) : At H (.ref p) (.obj C fd)
inductive Ats (H : Hp) : List V → List D → Prop
  | nil : Ats H [] []
  | cons {x : V} {d : D} {xs : List V} {ds : List D} (h : At H x d) (t : Ats H xs ds) : Ats H (x :: xs) (d :: ds)
end
/-- all that is known of one heap is known of the other; a dict may be locked -/
structure Mo (H H' : Hp) : Prop where
  one : ∀ a o, H a = some o → (∀ kv, o ≠ .dK kv) → (∀ kv, o ≠ .dT kv) → (∀ u w, o ≠ .frz u w) → H' a = some o
  dK : ∀ a kv, Rd H a (.dK kv) → Rd H' a (.dK kv)
  dT : ∀ a kv, Rd H a (.dT kv) → Rd H' a (.dT kv)
theorem Mo.refl (H : Hp) : Mo H H := ⟨fun _ _ e _ _ _ => e, fun _ _ e => e, fun _ _ e => e⟩
theorem Mo.trans {H H1 H2 : Hp} (s : Mo H H1) (t : Mo H1 H2) : Mo H H2 := ⟨fun a o e x y z => t.one a o (s.one a o e x y z) x y z, fun a kv e => t.dK a kv (s.dK a kv e), fun a kv e => t.dT a kv (s.dT a kv e)⟩
theorem Mo.of {H H' : Hp} (s : ∀ a o, H a = some o → H' a = some o) : Mo H H' :=
  ⟨fun a o e _ _ _ => s a o e, fun a kv e => e.elim (fun e => .inl (s _ _ e)) fun ⟨o, e⟩ => .inr ⟨o, s _ _ e⟩, fun a kv e => e.elim (fun e => .inl (s _ _ e)) fun ⟨o, e⟩ => .inr ⟨o, s _ _ e⟩⟩
mutual
theorem At.mono {H H' : Hp} {v : V} {d : D} (s : Mo H H') : At H v d → At H' v d
  | .int i => .int i
  | .bl b => .bl b
  | .non => .non
  | .str x => .str x
  | .lst h a => .lst (s.one _ _ h (fun _ z => by cases z) (fun _ z => by cases z) (fun _ _ z => by cases z)) (a.mono s)
  | .tup h a => .tup (s.one _ _ h (fun _ z => by cases z) (fun _ z => by cases z) (fun _ _ z => by cases z)) (a.mono s)
  | .dct h e a => .dct (s.dK _ _ h) e (a.mono s)
  | .dcT h e a => .dcT (s.dT _ _ h) e (a.mono s)
  | .obj h e a => .obj (s.one _ _ h (fun _ z => by cases z) (fun _ z => by cases z) (fun _ _ z => by cases z)) e (a.mono s)
theorem Ats.mono {H H' : Hp} {vs : List V} {ds : List D} (s : Mo H H') : Ats H vs ds → Ats H' vs ds
  | .nil => .nil
  | .cons h t => .cons (h.mono s) (t.mono s)
end
theorem rd_inj {H : Hp} {p : Addr} {kv kv' : List (Key × V)} (h : Rd H p (.dK kv)) (h' : Rd H p (.dK kv')) : kv = kv' := by
  rcases h with h | ⟨o, h⟩ <;> rcases h' with h' | ⟨o', h'⟩ <;> (rw [h] at h'; first | (cases h'; done) | (cases h'; rfl))
theorem rdT_inj {H : Hp} {p : Addr} {kv kv' : List (List Key × V)} (h : Rd H p (.dT kv)) (h' : Rd H p (.dT kv')) : kv = kv' := by
  rcases h with h | ⟨o, h⟩ <;> rcases h' with h' | ⟨o', h'⟩ <;> (rw [h] at h'; first | (cases h'; done) | (cases h'; rfl))
theorem pairs_eq {α β : Type} : ∀ {xs ys : List (α × β)}, xs.map (·.1) = ys.map (·.1) → xs.map (·.2) = ys.map (·.2) → xs = ys
  | [], [], _, _ => rfl
  | [], _ :: _, h, _ => by cases h
  | _ :: _, [], h, _ => by cases h
  | (a, b) :: xs, (c, d) :: ys, h, g => by
    simp only [List.map_cons, List.cons.injEq] at h g
    obtain ⟨rfl, h⟩ := h
    obtain ⟨rfl, g⟩ := g
    rw [pairs_eq h g]
mutual
theorem At.det {H : Hp} {v : V} {d d' : D} : At H v d → At H v d' → d = d'
  | .int i, h => by cases h; rfl
  | .bl b, h => by cases h; rfl
  | .non, h => by cases h; rfl
  | .str x, h => by cases h; rfl
  | .lst h a, h' => by
    cases h' with
    | lst h' a' => rw [h] at h'; cases h'; rw [a.det a']
    | tup h' a' => rw [h] at h'; cases h'
    | dct h' e' a' => rcases h' with h' | ⟨o, h'⟩ <;> (rw [h] at h'; cases h')
    | dcT h' e' a' => rcases h' with h' | ⟨o, h'⟩ <;> (rw [h] at h'; cases h')
    | obj h' e' a' => rw [h] at h'; cases h'
  | .tup h a, h' => by
    cases h' with
    | lst h' a' => rw [h] at h'; cases h'
    | tup h' a' => rw [h] at h'; cases h'; rw [a.det a']
    | dct h' e' a' => rcases h' with h' | ⟨o, h'⟩ <;> (rw [h] at h'; cases h')
    | dcT h' e' a' => rcases h' with h' | ⟨o, h'⟩ <;> (rw [h] at h'; cases h')
    | obj h' e' a' => rw [h] at h'; cases h'
  | .dct h e a, h' => by
    cases h' with
    | lst h' a' => rcases h with h | ⟨o, h⟩ <;> (rw [h] at h'; cases h')
    | tup h' a' => rcases h with h | ⟨o, h⟩ <;> (rw [h] at h'; cases h')
    | dct h' e' a' => cases rd_inj h h'; rw [pairs_eq (e.symm.trans e') (a.det a')]
    | dcT h' e' a' => rcases h with h | ⟨o, h⟩ <;> rcases h' with h' | ⟨o', h'⟩ <;> (rw [h] at h'; cases h')
    | obj h' e' a' => rcases h with h | ⟨o, h⟩ <;> (rw [h] at h'; cases h')
  | .dcT h e a, h' => by
    cases h' with
    | lst h' a' => rcases h with h | ⟨o, h⟩ <;> (rw [h] at h'; cases h')
    | tup h' a' => rcases h with h | ⟨o, h⟩ <;> (rw [h] at h'; cases h')
    | dct h' e' a' => rcases h with h | ⟨o, h⟩ <;> rcases h' with h' | ⟨o', h'⟩ <;> (rw [h] at h'; cases h')
    | dcT h' e' a' => cases rdT_inj h h'; rw [pairs_eq (e.symm.trans e') (a.det a')]
    | obj h' e' a' => rcases h with h | ⟨o, h⟩ <;> (rw [h] at h'; cases h')
  | .obj h e a, h' => by
    cases h' with
    | lst h' a' => rw [h] at h'; cases h'
    | tup h' a' => rw [h] at h'; cases h'
    | dct h' e' a' => rcases h' with h' | ⟨o, h'⟩ <;> (rw [h] at h'; cases h')
    | dcT h' e' a' => rcases h' with h' | ⟨o, h'⟩ <;> (rw [h] at h'; cases h')
    | obj h' e' a' => rw [h] at h'; cases h'; rw [pairs_eq (e.symm.trans e') (a.det a')]
theorem Ats.det {H : Hp} {vs : List V} {ds ds' : List D} : Ats H vs ds → Ats H vs ds' → ds = ds'
  | .nil, h => by cases h; rfl
  | .cons h t, h' => by
    cases h' with
    | cons h' t' => rw [h.det h', t.det t']
end
theorem Ats.length {H : Hp} : ∀ {vs : List V} {ds : List D}, Ats H vs ds → vs.length = ds.length
  | _, _, .nil => rfl
  | _, _, .cons _ t => congrArg (· + 1) t.length
theorem Ats.get {H : Hp} : ∀ {vs : List V} {ds : List D} {i : Nat} {d : D}, Ats H vs ds → ds[i]? = some d → ∃ v, vs[i]? = some v ∧ At H v d
  | _, _, _, _, .nil, e => by simp at e
  | _, _, 0, _, .cons h _, e => by simp at e; subst e; exact ⟨_, rfl, h⟩
  | _, _, i + 1, d, .cons _ t, e => by
    obtain ⟨v, h1, h2⟩ := t.get (i := i) (d := d) (by simpa using e)
    exact ⟨v, by simpa using h1, h2⟩
theorem Ats.got {H : Hp} : ∀ {vs : List V} {ds : List D} {i : Nat} {v : V}, Ats H vs ds → vs[i]? = some v → ∃ d, ds[i]? = some d ∧ At H v d
  | _, _, _, _, .nil, e => by simp at e
  | _, _, 0, _, .cons h _, e => by simp at e; subst e; exact ⟨_, rfl, h⟩
  | _, _, i + 1, v, .cons _ t, e => by
    obtain ⟨d, h1, h2⟩ := t.got (i := i) (v := v) (by simpa using e)
    exact ⟨d, by simpa using h1, h2⟩
theorem Ats.append {H : Hp} : ∀ {vs ws : List V} {ds es : List D}, Ats H vs ds → Ats H ws es → Ats H (vs ++ ws) (ds ++ es)
  | _, _, _, _, .nil, b => b
  | _, _, _, _, .cons h t, b => .cons h (t.append b)
theorem Ats.snoc {H : Hp} {vs : List V} {ds : List D} {v : V} {d : D} (a : Ats H vs ds) (h : At H v d) : Ats H (vs ++ [v]) (ds ++ [d]) := a.append (.cons h .nil)
theorem Ats.of {H : Hp} : ∀ {vs : List V} {ds : List D}, vs.length = ds.length → (∀ (i : Nat) (v : V) (d : D), vs[i]? = some v → ds[i]? = some d → At H v d) → Ats H vs ds
  | [], [], _, _ => .nil
  | [], _ :: _, h, _ => by cases h
  | _ :: _, [], h, _ => by cases h
  | v :: vs, d :: ds, h, g => .cons (g 0 v d rfl rfl) (Ats.of (by simpa using h) fun i v d e1 e2 => g (i + 1) v d (by simpa using e1) (by simpa using e2))
theorem Ats.take {H : Hp} : ∀ {vs : List V} {ds : List D} (n : Nat), Ats H vs ds → Ats H (vs.take n) (ds.take n)
  | _, _, 0, _ => by simpa using Ats.nil
  | _, _, _ + 1, .nil => by simpa using Ats.nil
  | _, _, n + 1, .cons h t => by simpa using Ats.cons h (t.take n)
theorem Ats.drop {H : Hp} : ∀ {vs : List V} {ds : List D} (n : Nat), Ats H vs ds → Ats H (vs.drop n) (ds.drop n)
  | _, _, 0, a => by simpa using a
  | _, _, _ + 1, .nil => by simpa using Ats.nil
  | _, _, n + 1, .cons h t => by simpa using t.drop n
theorem Ats.eraseIdx {H : Hp} {vs : List V} {ds : List D} (n : Nat) (a : Ats H vs ds) : Ats H (vs.eraseIdx n) (ds.eraseIdx n) := by
  rw [List.eraseIdx_eq_take_drop_succ, List.eraseIdx_eq_take_drop_succ]
  exact (a.take n).append (a.drop (n + 1))
theorem Ats.set {H : Hp} : ∀ {vs : List V} {ds : List D} {v : V} {d : D} (n : Nat), At H v d → Ats H vs ds → Ats H (vs.set n v) (ds.set n d)
  | _, _, _, _, _, _, .nil => .nil
  | _, _, _, _, 0, h, .cons _ t => .cons h t
  | _, _, _, _, n + 1, h, .cons g t => .cons g (t.set n h)
theorem Ats.reverse {H : Hp} : ∀ {vs : List V} {ds : List D}, Ats H vs ds → Ats H vs.reverse ds.reverse
  | _, _, .nil => .nil
  | _, _, .cons h t => by
    rw [List.reverse_cons, List.reverse_cons]
    exact t.reverse.snoc h
abbrev Xs := Addr → Prop
open Classical in
noncomputable def cut (X : Xs) (H : Hp) : Hp := fun a => if X a then none else H a
theorem cut_of {X : Xs} {H : Hp} {a : Addr} {o : HO} (n : ¬ X a) (h : H a = some o) : cut X H a = some o := by
  unfold cut
  rw [if_neg n]
  exact h
theorem of_cut {X : Xs} {H : Hp} {a : Addr} {o : HO} (h : cut X H a = some o) : ¬ X a ∧ H a = some o := by
  unfold cut at h
  by_cases x : X a
  · rw [if_pos x] at h
    cases h
  · rw [if_neg x] at h
    exact ⟨x, h⟩
theorem cut_sm {X : Xs} {H : Hp} : Mo (cut X H) H := .of fun _ _ e => (of_cut e).2
theorem cut_less {X X' : Xs} {H : Hp} (h : ∀ a, X' a → X a) : Mo (cut X H) (cut X' H) := .of fun _ _ e => cut_of (fun z => (of_cut e).1 (h _ z)) (of_cut e).2
/-- the excluded ones may grow by new ones; what is not excluded stays -/
theorem cut_keep {X X' : Xs} {H H' : Hp} (s : ∀ a o, ¬ X a → H a = some o → H' a = some o) (x : ∀ a o, ¬ X a → H a = some o → ¬ X' a) : Mo (cut X H) (cut X' H') :=
  .of fun a o e => cut_of (x a o (of_cut e).1 (of_cut e).2) (s a o (of_cut e).1 (of_cut e).2)
end Dt
namespace L2
open PySem PySem.Spec PyProof.Rows
theorem dcTurn_out (kx vx t0 i0 t1 i1 : Expr) (ifs0 ifs1 : List Expr) (scope : Scope) (pos : Pos) (it : Value) (acc : Addr) (env : Env) :
    compTurn (.DictComp kx vx [⟨t0, i0, ifs0, 0⟩, ⟨t1, i1, ifs1, 0⟩] scope pos) 0 it (.ref acc) env = (do
      standAt i0.pos
      match ← pyNext it with
      | none => pure (.done .next)
      | some v =>
        letOwnedTupleGo t0 it v
        assign t0 env v
        let mut ok := true
        for c in ifs0 do
          if ok then ok ← isTrue c env (eval c env)
        if ok then
          let x ← eval i1 env
          standAt i1.pos
          let x ← foldedSetIterable i1 env x
          let _ ← runOwn (.compStart (.DictComp kx vx [⟨t0, i0, ifs0, 0⟩, ⟨t1, i1, ifs1, 0⟩] scope pos) 1 (← holding [x] (pyIter x)) (.ref acc) env) env
        again (.compLoop (.DictComp kx vx [⟨t0, i0, ifs0, 0⟩, ⟨t1, i1, ifs1, 0⟩] scope pos) 0 it (.ref acc) env)) := by rfl
theorem dcTurn_in (kx vx t0 i0 t1 i1 : Expr) (ifs0 ifs1 : List Expr) (scope : Scope) (pos : Pos) (it : Value) (acc : Addr) (env : Env) :
    compTurn (.DictComp kx vx [⟨t0, i0, ifs0, 0⟩, ⟨t1, i1, ifs1, 0⟩] scope pos) 1 it (.ref acc) env = (do
      standAt i1.pos
      match ← pyNext it with
      | none => pure (.done .next)
      | some v =>
        letOwnedTupleGo t1 it v
        assign t1 env v
        let mut ok := true
        for c in ifs1 do
          if ok then ok ← isTrue c env (eval c env)
        if ok then
          (do
            let kv ← eval kx env
            let vv ← holding [kv] (eval vx env)
            standAt { kx.pos with endLine := vx.pos.endLine, endCol := vx.pos.endCol }
            holding [kv, vv] (dictSet acc kv vv))
        again (.compLoop (.DictComp kx vx [⟨t0, i0, ifs0, 0⟩, ⟨t1, i1, ifs1, 0⟩] scope pos) 1 it (.ref acc) env)) := by rfl
section
variable {prog : Program} {w : World} {A : Around} {R : Result → Shared → Prop} {s : Shared} {kx vx t0 i0 t1 i1 : Expr} {ifs0 ifs1 : List Expr} {scope : Scope} {pos : Pos} {it : Value} {acc : Addr} {env : Env}
/-- the loop of the first clause -/
theorem dcLoop_out (hs : ∀ x, foldedSetIterable i1 env x = pure x) (I : Nat → Shared → Prop)
    (turn : ∀ n s, I n s → wpAny (model prog w) A (pyNext it) (fun r s₁ => match r with
      | none => R (.ok .next) s₁
      | some v => wpAny (model prog w) A (letOwnedTupleGo t0 it v) (fun _ s₁' => wpAny (model prog w) A (assign t0 env v) (fun _ s₂ =>
          wpAny (model prog w) A (forIn ifs0 true fun c r => if r = true then do let ok ← isTrue c env (eval c env); pure (ForInStep.yield ok) else pure (ForInStep.yield r)) (fun ok s₃ =>
            if ok = true then wpAny (model prog w) A (eval i1 env) (fun x s₄ => wpAny (model prog w) A (pyIter x) (fun it1 s₅ =>
              codeAny (model prog w) A (.compStart (.DictComp kx vx [⟨t0, i0, ifs0, 0⟩, ⟨t1, i1, ifs1, 0⟩] scope pos) 1 it1 (.ref acc) env) (fun r s' => match r with
                | .ok _ => ∃ m, m < n ∧ I m s'
                | .error _ => False) s₅) (notedBy (model prog w) A env fun e s' => R (.error e) s') s₄) (notedBy (model prog w) A env fun e s' => R (.error e) s') s₃
            else ∃ m, m < n ∧ I m s₃) (notedBy (model prog w) A env fun e s' => R (.error e) s') s₂) (notedBy (model prog w) A env fun e s' => R (.error e) s') s₁') (notedBy (model prog w) A env fun e s' => R (.error e) s') s₁) (notedBy (model prog w) A env fun e s' => R (.error e) s') s)
    (n : Nat) (h : I n s) :
    codeAny (model prog w) A (.compLoop (.DictComp kx vx [⟨t0, i0, ifs0, 0⟩, ⟨t1, i1, ifs1, 0⟩] scope pos) 0 it (.ref acc) env) R s := by
  refine codeAny_loop rfl I (fun n s hI => ?_) n h
  show wpAny _ A ((compTurn (.DictComp kx vx [⟨t0, i0, ifs0, 0⟩, ⟨t1, i1, ifs1, 0⟩] scope pos) 0 it (.ref acc) env).onRaise (fun x => do noteFrame x env; theTreesLotGoes x)) _ _ s
  refine wpAny_noted ?_
  rw [dcTurn_out]
  refine wpAny_bind (wpAny_standAt (wpAny_bind (wpAny_mono (turn n s hI) (fun r s₁ h₁ => ?_) fun _ _ h' => h')))
  cases r with
  | none => exact wpAny_pure h₁
  | some v =>
    refine wpAny_bind (wpAny_mono h₁ (fun _ s₁' h₁' => ?_) fun _ _ h' => h')
    refine wpAny_bind (wpAny_mono h₁' (fun _ s₂ h₂ => wpAny_bind (wpAny_mono h₂ (fun ok s₃ h₃ => ?_) fun _ _ h' => h')) fun _ _ h' => h')
    cases ok with
    | false => exact wpAny_pure ⟨rfl, h₃⟩
    | true =>
      refine wpAny_bind (wpAny_mono h₃ (fun x s₄ h₄ => ?_) fun _ _ h' => h')
      refine wpAny_bind (wpAny_standAt (wpAny_bind (wpAny_of_eq (hs x) (wpAny_bind (wpAny_holding (wpAny_mono h₄ (fun it1 s₅ h₅ => ?_) fun _ _ h' => h'))))))
      refine wpAny_bind (wpAny_runOwn ?_)
      rw [Around.mark_none]
      refine codeAny_mono h₅ fun r s' hr => ?_
      cases r with
      | ok f =>
        first
          | exact wpAny_pure ⟨rfl, hr⟩
          | exact wpAny_bind (wpAny_pure (wpAny_pure ⟨rfl, hr⟩))
      | error e => exact hr.elim
/-- the loop of the second -/
theorem dcLoop_in (I : Nat → Shared → Prop)
    (turn : ∀ n s, I n s → wpAny (model prog w) A (pyNext it) (fun r s₁ => match r with
      | none => R (.ok .next) s₁
      | some v => wpAny (model prog w) A (letOwnedTupleGo t1 it v) (fun _ s₁' => wpAny (model prog w) A (assign t1 env v) (fun _ s₂ =>
          wpAny (model prog w) A (forIn ifs1 true fun c r => if r = true then do let ok ← isTrue c env (eval c env); pure (ForInStep.yield ok) else pure (ForInStep.yield r)) (fun ok s₃ =>
            if ok = true then wpAny (model prog w) A (eval kx env) (fun kv s₄ => wpAny (model prog w) A (eval vx env) (fun vv s₅ =>
              wpAny (model prog w) A (dictSet acc kv vv) (fun _ s₆ => ∃ m, m < n ∧ I m s₆) (notedBy (model prog w) A env fun e s' => R (.error e) s') s₅) (notedBy (model prog w) A env fun e s' => R (.error e) s') s₄) (notedBy (model prog w) A env fun e s' => R (.error e) s') s₃
            else ∃ m, m < n ∧ I m s₃) (notedBy (model prog w) A env fun e s' => R (.error e) s') s₂) (notedBy (model prog w) A env fun e s' => R (.error e) s') s₁') (notedBy (model prog w) A env fun e s' => R (.error e) s') s₁) (notedBy (model prog w) A env fun e s' => R (.error e) s') s)
    (n : Nat) (h : I n s) :
    codeAny (model prog w) A (.compLoop (.DictComp kx vx [⟨t0, i0, ifs0, 0⟩, ⟨t1, i1, ifs1, 0⟩] scope pos) 1 it (.ref acc) env) R s := by
  refine codeAny_loop rfl I (fun n s hI => ?_) n h
  show wpAny _ A ((compTurn (.DictComp kx vx [⟨t0, i0, ifs0, 0⟩, ⟨t1, i1, ifs1, 0⟩] scope pos) 1 it (.ref acc) env).onRaise (fun x => do noteFrame x env; theTreesLotGoes x)) _ _ s
  refine wpAny_noted ?_
  rw [dcTurn_in]
  refine wpAny_bind (wpAny_standAt (wpAny_bind (wpAny_mono (turn n s hI) (fun r s₁ h₁ => ?_) fun _ _ h' => h')))
  cases r with
  | none => exact wpAny_pure h₁
  | some v =>
    refine wpAny_bind (wpAny_mono h₁ (fun _ s₁' h₁' => ?_) fun _ _ h' => h')
    refine wpAny_bind (wpAny_mono h₁' (fun _ s₂ h₂ => wpAny_bind (wpAny_mono h₂ (fun ok s₃ h₃ => ?_) fun _ _ h' => h')) fun _ _ h' => h')
    cases ok with
    | false => exact wpAny_pure ⟨rfl, h₃⟩
    | true =>
      exact wpAny_bind (wpAny_bind (wpAny_mono h₃ (fun kv s₄ h₄ => wpAny_bind (wpAny_holding (wpAny_mono h₄ (fun vv s₅ h₅ => wpAny_bind (wpAny_standAt (wpAny_holding (wpAny_mono h₅ (fun _ s₆ h₆ => wpAny_pure ⟨rfl, h₆⟩) fun _ _ h' => h')))) fun _ _ h' => h'))) fun _ _ h' => h'))
/-- the second clause's start -/
theorem dcStart1 (h0 : codeAny (model prog w) A (.compLoop (.DictComp kx vx [⟨t0, i0, ifs0, 0⟩, ⟨t1, i1, ifs1, 0⟩] scope pos) 1 it (.ref acc) env) R s)
    (h : wpAny (model prog w) A (pyIter it) (fun it' s' => codeAny (model prog w) A (.compLoop (.DictComp kx vx [⟨t0, i0, ifs0, 0⟩, ⟨t1, i1, ifs1, 0⟩] scope pos) 1 it' (.ref acc) env) R s')
      (notedBy (model prog w) A env fun x s' => R (.error x) s') s) :
    codeAny (model prog w) A (.compStart (.DictComp kx vx [⟨t0, i0, ifs0, 0⟩, ⟨t1, i1, ifs1, 0⟩] scope pos) 1 it (.ref acc) env) R s := by
  refine codeAny_of_tree ?_
  show wpAny _ _ ((compStart (.DictComp kx vx [⟨t0, i0, ifs0, 0⟩, ⟨t1, i1, ifs1, 0⟩] scope pos) 1 it (.ref acc) env).onRaise (fun x => do noteFrame x env; standAt theWindowsPlace)) _ _ s
  refine wpAny_notedAt ?_
  unfold compStart
  show wpAny _ _ (ask >>= _) _ _ s
  refine wpAny_bind (wpAny_askSetting (wpAny_ite ?_))
  split
  · first
      | exact wpAny_bind (wpAny_pure (wpAny_pure (And.intro rfl h0)))
      | exact wpAny_pure (And.intro rfl h0)
  · first
      | exact wpAny_bind (wpAny_rule (wpAny_bind (wpAny_standAt (wpAny_bind (wpAny_mono h (fun it' s' h' => wpAny_pure (And.intro rfl h')) fun _ _ x => x)))))
      | (refine wpAny_bind (wpAny_rule ?_); show wpAny _ _ (standAt i1.pos >>= _) _ _ s; exact wpAny_bind (wpAny_standAt (wpAny_bind (wpAny_mono h (fun it' s' h' => wpAny_pure (And.intro rfl h')) fun _ _ x => x))))
end
section
variable {X : Cx}
/-- d[t] = v within a comprehension, the key a tuple -/
theorem dt_set {pins : List (Addr × Obj)} {σ : St} {H : Hp} {s : Shared} {E : Value → Shared → Prop} {D b : Addr} {kvs : List (List Key × V)} {k : List Key} {v : V} {r : Value} {Q : Unit → Shared → Prop} (hu : X.A.units + 1 < cLine) (I : Inv X pins σ H s) (hD : H D = some (.dT kvs))
    (hb : H b = some (.tup (k.map kV))) (hz : kvs.length < sizeLine) (rv : RelV v r) (h : ∀ s', Inv X pins σ (upd H D (.dT (putK kvs k v))) s' → Q () s') : wpAny (model X.prog X.w) X.A (dictSet D (.ref b) r) Q E s := by
  obtain ⟨z, hd, xs, rel, dd⟩ := dt_of I.hok hD
  have z1 : xs.length ≤ sizeLine := Paired.length rel ▸ z
  have z2 : (putK kvs k v).length ≤ sizeLine := Nat.le_trans (length_putK kvs k v) hz
  refine wpAny_dictSet_heap (hsz := z1) (Nat.lt_of_succ_lt hu) (key_of I.hok hb) dd fun h' dd' hs => h _ ?_
  obtain ⟨q, es, ep, hq, g2, g3, g4, _, g5⟩ := dd'
  refine d_write I (by rw [hD]; exact True.intro) hs ⟨q, hq⟩ ⟨z2, hd, _, (rel.put k hb rv).keeps fun c ys ec => ?_, q, es, ep, hq, g2, g3, g4, g5⟩
  rw [upd_ne (ne_of ec hD (fun z => nomatch z))]
  exact ec
/-- {(..): v for tg in iter if .. for tg1 in iter1 if ..} -/
def tDc2 (wi : TI) (g : TG) (tt : TT) (wi1 : TI) (g1 : TG) (tt1 : TT) (tk tv : TE) (vs vs1 : List Nat) : TE := fun σ H Q => wi σ H fun J H1 => ∀ D, H1 D = none → ∃ W : Nat → Nat → Hp → Prop, (∃ m, W 0 m (upd H1 D (.dT []))) ∧ ∀ i m H, W i m H →
  (J.stop i H ∧ Q (.ref D) H) ∨ (J.go i H ∧ ∃ Nx : Hp → Prop, (∀ H', Nx H' → ∃ m', m' < m ∧ W (i + 1) m' H') ∧ ∀ x H', J.yld i H x H' → g x (wipe σ vs) H' fun σ2 H2 => wipe σ2 vs = wipe σ vs ∧ tt σ2 H2 fun b H3 =>
    if b = true then wi1 σ2 H3 fun J1 H4 => ∃ W1 : Nat → Nat → Hp → Prop, (∃ m, W1 0 m H4) ∧ ∀ j k H, W1 j k H →
      (J1.stop j H ∧ Nx H) ∨ (J1.go j H ∧ ∃ Nx1 : Hp → Prop, (∀ H', Nx1 H' → ∃ k', k' < k ∧ W1 (j + 1) k' H') ∧ ∀ x H', J1.yld j H x H' → g1 x (wipe σ2 vs1) H' fun σ3 H5 => wipe σ3 vs1 = wipe σ2 vs1 ∧ tt1 σ3 H5 fun b H6 =>
        if b = true then tk σ3 H6 fun y H7 => tv σ3 H7 fun z H8 => ∃ kvs k t, y = .ref t ∧ H8 t = some (.tup (k.map kV)) ∧ H8 D = some (.dT kvs) ∧ kvs.length < sizeLine ∧ Nx1 (upd H8 D (.dT (putK kvs k z))) else Nx1 H6)
    else Nx H3)
theorem dc2_core {pins : List (Addr × Obj)} {s : Shared} {σ : St} {H : Hp} {Q : VK} {kx vx tg iter tg1 iter1 : Expr} {ifs ifs1 : List Expr} {scope : Scope} {own : List (Str × Nat)} {vs1 : List Nat} {pos pos' : Pos} {wi wi1 : TI} {g g1 : TG} {tt tt1 : TT} {tk tv : TE} {use : Option (Value → Sem Unit)} {Qf : Value → Shared → Prop}
    (hu : X.A.units + 1 < cLine) (hc : X.calm = true) (hN : X.N.Nodup) (I : Inv X pins σ H s) (hi : PI X tg iter wi) (ok : BlkOk X.N X.env.scope scope own) (hv : ∀ i ∈ vs1, i ∈ own.map (·.2))
    (hg : ∀ (s : Shared) (H : Hp) (C : Addr) (cl : List (Str × Addr)) (fp : List Addr), PG (X.blk s H scope (compEnvC scope cl C X.env) fp) tg g) (ht : ∀ (s : Shared) (H : Hp) (C : Addr) (cl : List (Str × Addr)) (fp : List Addr), PTs (X.blk s H scope (compEnvC scope cl C X.env) fp) ifs tt)
    (he : ∀ (s : Shared) (H : Hp) (C : Addr) (cl : List (Str × Addr)) (fp : List Addr), PE (X.blk s H scope (compEnvC scope cl C X.env) fp) kx tk)
    (hv' : ∀ (s : Shared) (H : Hp) (C : Addr) (cl : List (Str × Addr)) (fp : List Addr), PE (X.blk s H scope (compEnvC scope cl C X.env) fp) vx tv) (hs : ∀ x, foldedSetIterable iter X.env x = pure x)
    (hi1 : ∀ (s : Shared) (H : Hp) (C : Addr) (cl : List (Str × Addr)) (fp : List Addr), PI (X.blk s H scope (compEnvC scope cl C X.env) fp) tg1 iter1 wi1)
    (hg1 : ∀ (s : Shared) (H : Hp) (C : Addr) (cl : List (Str × Addr)) (fp : List Addr), PG (X.blk s H scope (compEnvC scope cl C X.env) fp) tg1 g1)
    (ht1 : ∀ (s : Shared) (H : Hp) (C : Addr) (cl : List (Str × Addr)) (fp : List Addr), PTs (X.blk s H scope (compEnvC scope cl C X.env) fp) ifs1 tt1)
    (hs1 : ∀ env x, foldedSetIterable iter1 env x = pure x)
    (h : tDc2 wi g tt wi1 g1 tt1 tk tv (own.map (·.2)) vs1 σ H Q)
    (hRR : ∀ D C s' m H', Inv X pins σ H' s' → Q (.ref D) H' → s'.heap.Ns C m → FpOk X pins H' C → compPost (model X.prog X.w) X.A X.xe use Qf (.ref D) C (.ok .next) s') :
    wpAny (model X.prog X.w) X.A (comprehension (.DictComp kx vx [⟨tg, iter, ifs, 0⟩, ⟨tg1, iter1, ifs1, 0⟩] scope pos) scope X.env pos' newDict false (eval iter X.env) use) Qf X.xe s := by
  have hfree : ∀ y ∈ scope.names, y.2 = .free → ∃ c, X.env.cells.lookup y.1 = some c := fun y hy e => by
    rcases ok.free y hy e with k | k
    · exact I.ok.has _ (.inl k)
    · exact I.ok.has _ (.inr k)
  refine wpAny_comprehension_free (use := use) rfl hs (closure_ok hfree) ok.kind (fun y hy e => by rw [ok.uniq y hy, e])
    (thn (hi.run pins s σ H _ I h) fun xv s1 hx => thn hx fun itv s2 h2 => ?_)
  obtain ⟨it, fp, tn, J, H2, e, I2, T, st2, f2, q⟩ := h2
  subst e
  refine wpAny_newObj_type (newEnv_comp ?_)
  generalize hD : s2.heap.objs.size = D
  have hDn : H2 D = none := I2.hok.fresh (Nat.le_of_eq hD)
  obtain ⟨W, ⟨m0, w0⟩, turn⟩ := q D hDn
  -- the new list
  generalize hs3 : ({ s2 with heap := s2.heap.push { cls := .type "dict", data := .dict #[] } } : Shared) = s3
  have I3 : Inv X pins σ (upd H2 D (.dT [])) s3 := by
    rw [← hs3]
    refine I2.laid (t' := s2.toks) (fun b o e => Heap.get?_push_of_some _ e) (Nat.le_of_eq hD) ?_
    rw [← hD]
    exact dt_empty s2.heap I2.big
  have h3 : s3.heap = s2.heap.push { cls := .type "dict", data := .dict #[] } := by rw [← hs3]
  have sz : ∀ b ∈ fp, b < s2.heap.objs.size := fun b hb => by
    obtain ⟨o, e, _⟩ := T.obj _ _ st2 b hb
    exact Heap.lt_size e
  have f3 : ∀ b ∈ fp, FpOk X pins (upd H2 D (.dT [])) b ∧ b < s3.heap.objs.size := fun b hb => by
    have hlt := sz b hb
    refine ⟨⟨?_, (f2 b hb).2⟩, by rw [h3, Heap.size_push]; exact Nat.lt_succ_of_lt hlt⟩
    rw [upd_ne (by rw [← hD]; exact Nat.ne_of_lt hlt)]
    exact (f2 b hb).1
  have st3 : tn 0 s3.heap := T.keep _ _ _ st2 fun b _ o e => by rw [h3]; exact Heap.get?_push_of_some _ e
  have I4 := block_start I3 ok hN f3
  have pg := hg s3 (upd H2 D (.dT [])) s3.heap.objs.size (cellsFrom (s3.heap.objs.size + 1) scope.names (cloFrom X.env.cells scope.names [])) fp
  have pt := ht s3 (upd H2 D (.dT [])) s3.heap.objs.size (cellsFrom (s3.heap.objs.size + 1) scope.names (cloFrom X.env.cells scope.names [])) fp
  have pk := he s3 (upd H2 D (.dT [])) s3.heap.objs.size (cellsFrom (s3.heap.objs.size + 1) scope.names (cloFrom X.env.cells scope.names [])) fp
  have pv := hv' s3 (upd H2 D (.dT [])) s3.heap.objs.size (cellsFrom (s3.heap.objs.size + 1) scope.names (cloFrom X.env.cells scope.names [])) fp
  have pi1 := hi1 s3 (upd H2 D (.dT [])) s3.heap.objs.size (cellsFrom (s3.heap.objs.size + 1) scope.names (cloFrom X.env.cells scope.names [])) fp
  have pg1 := hg1 s3 (upd H2 D (.dT [])) s3.heap.objs.size (cellsFrom (s3.heap.objs.size + 1) scope.names (cloFrom X.env.cells scope.names [])) fp
  have pt1 := ht1 s3 (upd H2 D (.dT [])) s3.heap.objs.size (cellsFrom (s3.heap.objs.size + 1) scope.names (cloFrom X.env.cells scope.names [])) fp
  show codeAny _ _ (.compStart (.DictComp kx vx [⟨tg, iter, ifs, 0⟩, ⟨tg1, iter1, ifs1, 0⟩] scope pos) 0 (.ref it) (.ref D) (compEnvC scope (cellsFrom (s3.heap.objs.size + 1) scope.names (cloFrom X.env.cells scope.names [])) s3.heap.objs.size X.env)) (compPost (model X.prog X.w) X.A X.xe use Qf (.ref D) s3.heap.objs.size) { s3 with heap := pushCells (s3.heap.push { cls := .type "dict", data := .dict #[] }) scope.names }
  have nfp : ∀ b ∈ fp, (upd H2 D (.dT [])) b = none := fun b hb => (f3 b hb).1.1
  generalize hce : compEnvC scope (cellsFrom (s3.heap.objs.size + 1) scope.names (cloFrom X.env.cells scope.names [])) s3.heap.objs.size X.env = ce at I4 pg pt pk pv pi1 pg1 pt1 ⊢
  have cL : ce.locals = s3.heap.objs.size := by subst hce; rfl
  generalize hH3 : upd H2 D (.dT []) = H3 at I3 I4 pg pt pk pv pi1 pg1 pt1 w0 nfp f3
  generalize hs4 : ({ s3 with heap := pushCells (s3.heap.push { cls := .type "dict", data := .dict #[] }) scope.names } : Shared) = s4 at I4 ⊢
  have st4 : tn 0 s4.heap := T.keep _ _ _ st3 fun b _ o e => by rw [← hs4]; exact pushCells_keeps _ _ _ _ (Heap.get?_push_of_some _ e)
  have stat : ∀ {σ' : St} {H' : Hp} {s' : Shared}, Inv (X.blk s3 H3 scope ce fp) [] σ' H' s' → (∀ b ∈ fp, H' b = none) → ∀ b ∈ fp, FpOk (X.blk s3 H3 scope ce fp) [] H' b := fun {σ' H' s'} I' hn b hb =>
    ⟨hn b hb, (I'.ok.exf b hb).1, I'.ok.exfs b hb, .inl hb, fun x c e => (I'.ok.exf b hb).2 x c e, fun p hp => absurd (show p ∈ ([] : List (Addr × Obj)) ++ [] from hp) (by simp)⟩
  have loop : codeAny (model X.prog X.w) X.A (.compLoop (.DictComp kx vx [⟨tg, iter, ifs, 0⟩, ⟨tg1, iter1, ifs1, 0⟩] scope pos) 0 (.ref it) (.ref D) ce) (compPost (model X.prog X.w) X.A X.xe use Qf (.ref D) s3.heap.objs.size) s4 := by
    refine dcLoop_out (hs1 ce) (fun n s' => ∃ i H', Inv (X.blk s3 H3 scope ce fp) [] (wipe σ (own.map (·.2))) H' s' ∧ tn i s'.heap ∧ (∀ b ∈ fp, H' b = none) ∧ W i n H') ?_ m0 ⟨0, H3, I4, st4, nfp, w0⟩
    rintro n s5 ⟨i, H5, I5, st5, n5, w5⟩
    rcases turn i n H5 w5 with ⟨stop, qq⟩ | ⟨go, Nx, hNx, step⟩
    · have td := T.done (X.blk s3 H3 scope ce fp) rfl rfl rfl hc i [] s5 _ H5 (fun _ _ => False) I5 (stat I5 n5) st5 stop
      refine thnF td fun r s6 ⟨hr, I6⟩ => ?_
      subst hr
      -- back in the def's context
      have I7 : Inv X pins σ H5 s6 := I3.call' (ch := fp) I6.os I6.base I6.hok I6.bare fun b hb => ⟨(f3 b hb).1.2.2.2.1, (f3 b hb).1.2.1, (f3 b hb).1.2.2.2.2.1, (f3 b hb).1.2.2.2.2.2⟩
      have nC : H5 s3.heap.objs.size = none := by
        have z : H5 ce.locals = none := I6.free
        rw [cL] at z
        exact z
      obtain ⟨m, hn, _⟩ := I6.loc
      have hn : s6.heap.Ns ce.locals m := hn
      rw [cL] at hn
      exact hRR D s3.heap.objs.size s6 m H5 I7 qq hn (I3.fpOk (Nat.le_refl _) nC)
    · have ti := T.item (X.blk s3 H3 scope ce fp) rfl rfl rfl hc i [] s5 _ H5 (fun _ _ => False) I5 (stat I5 n5) st5 go
      refine thnF ti fun r s6 ⟨u, hr, h6⟩ => ?_
      subst hr
      refine thnF h6 fun _ s7 ⟨x, H7, I7, r7, y7, st7, n7⟩ => ?_
      have I7' := I7.pinned (stat I7 n7) (T.obj _ _ st7)
      refine thnF (pg.run _ s7 _ H7 x u _ I7' r7 (step x H7 y7)) fun _ s8 ⟨σ8, H8, I8, hw8, q8⟩ => ?_
      refine thnF (pt.run _ s8 σ8 H8 _ I8 q8) fun b s9 ⟨H9, I9, q9⟩ => ?_
      -- the turn's end, from any slots that know what the block knew at its start
      have fin : ∀ {σ9 : St} {s' : Shared} {H' : Hp}, Inv (X.blk s3 H3 scope ce fp) ([] ++ pinsAt fp s7.heap) σ9 H' s' → (wipe σ (own.map (·.2))).length = σ9.length → (∀ (j : Nat) v, (wipe σ (own.map (·.2)))[j]? = some (some v) → σ9[j]? = some (some v)) → Nx H' →
          ∃ m, m < n ∧ ∃ i H', Inv (X.blk s3 H3 scope ce fp) [] (wipe σ (own.map (·.2))) H' s' ∧ tn i s'.heap ∧ (∀ b ∈ fp, H' b = none) ∧ W i m H' := fun {σ9 s' H'} I' hl hk nx => by
        obtain ⟨m', hm, w'⟩ := hNx H' nx
        have pin' : ∀ b ∈ fp, ∀ o, s7.heap.get? b = some o → s'.heap.get? b = some o ∧ H' b = none := fun b hb o e =>
          let z := I'.pin (b, o) (List.mem_append_right _ (List.mem_append_right _ (mem_pinsAt hb e)))
          ⟨z.1, z.2.1⟩
        refine ⟨m', hm, i + 1, H', (I'.unpinned (pins := [])).weak hl hk, T.keep _ _ _ st7 fun b hb o e => (pin' b hb o e).1, fun b hb => ?_, w'⟩
        obtain ⟨o, e, _⟩ := T.obj _ _ st7 b hb
        exact (pin' b hb o e).2
      have hl8 : (wipe σ (own.map (·.2))).length = σ8.length := by rw [← hw8, wipe_length]
      have hk8 : ∀ (j : Nat) v, (wipe σ (own.map (·.2)))[j]? = some (some v) → σ8[j]? = some (some v) := fun j v e => by
        rw [← hw8] at e
        exact (wipe_some e).1
      have hk9 : ∀ (j : Nat) v, (wipe σ (own.map (·.2)))[j]? = some (some v) → (wipe σ8 vs1)[j]? = some (some v) := fun j v e => by
        rw [← hw8] at e
        obtain ⟨e1, e2⟩ := wipe_some e
        rw [wipe_out fun z => e2 (hv j z)]
        exact e1
      cases b with
      | false =>
        simp only [Bool.false_eq_true, if_false] at q9 ⊢
        exact fin I9 hl8 hk8 q9
      | true =>
        simp only [if_true] at q9 ⊢
        refine thnF (pi1.run _ s9 σ8 H9 _ I9 q9) fun xv s10 hx => thnF hx fun itv s11 h11 => ?_
        obtain ⟨it1, fp1, tn1, J1, H11, e1, I11, T1, st11, f11, W1, ⟨m1, w1⟩, turn1⟩ := h11
        subst e1
        -- the inner loop
        have stat1 : ∀ {H' : Hp}, (∀ b ∈ fp1, H' b = none) → ∀ b ∈ fp1, FpOk (X.blk s3 H3 scope ce fp) ([] ++ pinsAt fp s7.heap) H' b := fun hn b hb => ⟨hn b hb, (f11 b hb).2⟩
        have loop1 : codeAny (model X.prog X.w) X.A (.compLoop (.DictComp kx vx [⟨tg, iter, ifs, 0⟩, ⟨tg1, iter1, ifs1, 0⟩] scope pos) 1 (.ref it1) (.ref D) ce)
            (fun r s' => match r with
              | .ok _ => ∃ m, m < n ∧ ∃ i H', Inv (X.blk s3 H3 scope ce fp) [] (wipe σ (own.map (·.2))) H' s' ∧ tn i s'.heap ∧ (∀ b ∈ fp, H' b = none) ∧ W i m H'
              | .error _ => False) s11 := by
          refine dcLoop_in (fun k s' => ∃ j H', Inv (X.blk s3 H3 scope ce fp) ([] ++ pinsAt fp s7.heap) (wipe σ8 vs1) H' s' ∧ tn1 j s'.heap ∧ (∀ b ∈ fp1, H' b = none) ∧ W1 j k H') ?_ m1 ⟨0, H11, I11.weak (wipe_length _ _) (fun j v e => (wipe_some e).1), st11, fun b hb => (f11 b hb).1, w1⟩
          rintro k s12 ⟨j, H12, I12, st12, n12, w12⟩
          rcases turn1 j k H12 w12 with ⟨stop1, nx1⟩ | ⟨go1, Nx1, hNx1, step1⟩
          · refine thnF (T1.done (X.blk s3 H3 scope ce fp) rfl rfl rfl hc j _ s12 (wipe σ8 vs1) H12 (fun _ _ => False) I12 (stat1 n12) st12 stop1) fun r s13 ⟨hr, I13⟩ => ?_
            subst hr
            exact fin I13 (hl8.trans (wipe_length σ8 vs1).symm) hk9 nx1
          · refine thnF (T1.item (X.blk s3 H3 scope ce fp) rfl rfl rfl hc j _ s12 (wipe σ8 vs1) H12 (fun _ _ => False) I12 (stat1 n12) st12 go1) fun r s13 ⟨u1, hr, h13⟩ => ?_
            subst hr
            refine thnF h13 fun _ s14 ⟨x1, H14, I14, r14, y14, st14, n14⟩ => ?_
            have I14' := I14.pinned (stat1 n14) (T1.obj _ _ st14)
            refine thnF (pg1.run _ s14 (wipe σ8 vs1) H14 x1 u1 _ I14' r14 (step1 x1 H14 y14)) fun _ s15 ⟨σ15, H15, I15, hw15, q15⟩ => ?_
            refine thnF (pt1.run _ s15 σ15 H15 _ I15 q15) fun b1 s16 ⟨H16, I16, q16⟩ => ?_
            have fin1 : ∀ {s' : Shared} {H' : Hp}, Inv (X.blk s3 H3 scope ce fp) (([] ++ pinsAt fp s7.heap) ++ pinsAt fp1 s14.heap) σ15 H' s' → Nx1 H' → ∃ m, m < k ∧ ∃ j H', Inv (X.blk s3 H3 scope ce fp) ([] ++ pinsAt fp s7.heap) (wipe σ8 vs1) H' s' ∧ tn1 j s'.heap ∧ (∀ b ∈ fp1, H' b = none) ∧ W1 j m H' := fun {s' H'} I' nx => by
              obtain ⟨m', hm, w'⟩ := hNx1 H' nx
              have pin' : ∀ b ∈ fp1, ∀ o, s14.heap.get? b = some o → s'.heap.get? b = some o ∧ H' b = none := fun b hb o e =>
                let z := I'.pin (b, o) (List.mem_append_right _ (List.mem_append_right _ (mem_pinsAt hb e)))
                ⟨z.1, z.2.1⟩
              refine ⟨m', hm, j + 1, H', I'.unpinned.weak (by rw [← hw15, wipe_length]) (fun j v e => by rw [← hw15] at e; exact (wipe_some e).1), T1.keep _ _ _ st14 fun b hb o e => (pin' b hb o e).1, fun b hb => ?_, w'⟩
              obtain ⟨o, e, _⟩ := T1.obj _ _ st14 b hb
              exact (pin' b hb o e).2
            cases b1 with
            | false =>
              simp only [Bool.false_eq_true, if_false] at q16 ⊢
              exact fin1 I16 q16
            | true =>
              simp only [if_true] at q16 ⊢
              refine thnF (pk.run _ s16 σ15 H16 _ I16 q16) fun z s17 ⟨yk, H17, I17, r17, q17⟩ => ?_
              refine thnF (pv.run _ s17 σ15 H17 _ I17 q17) fun z2 s18 ⟨yv, H18, I18, r18, kvs, k, b, ek, hk18, hD18, hz18, nx⟩ => ?_
              subst ek
              cases (show z = Value.ref b from r17)
              exact dt_set (X := X.blk s3 H3 scope ce fp) hu I18 hD18 hk18 hz18 r18 fun s19 I19 => fin1 I19 nx
        exact dcStart1 loop1 (T1.self X.A 0 _ _ _ st11 loop1)
  exact codeAny_compStart_dict loop (T.self X.A 0 _ _ _ st4 loop)
/-- as a value -/
theorem pe_dc2 {kx vx tg iter tg1 iter1 : Expr} {ifs ifs1 : List Expr} {scope : Scope} {own : List (Str × Nat)} {vs1 : List Nat} {pos : Pos} {wi wi1 : TI} {g g1 : TG} {tt tt1 : TT} {tk tv : TE} (hu : X.A.units + 1 < cLine) (hc : X.calm = true) (hN : X.N.Nodup) (hi : PI X tg iter wi) (ok : BlkOk X.N X.env.scope scope own) (hv : ∀ i ∈ vs1, i ∈ own.map (·.2))
    (hg : ∀ (s : Shared) (H : Hp) (C : Addr) (cl : List (Str × Addr)) (fp : List Addr), PG (X.blk s H scope (compEnvC scope cl C X.env) fp) tg g) (ht : ∀ (s : Shared) (H : Hp) (C : Addr) (cl : List (Str × Addr)) (fp : List Addr), PTs (X.blk s H scope (compEnvC scope cl C X.env) fp) ifs tt)
    (hi1 : ∀ (s : Shared) (H : Hp) (C : Addr) (cl : List (Str × Addr)) (fp : List Addr), PI (X.blk s H scope (compEnvC scope cl C X.env) fp) tg1 iter1 wi1)
    (hg1 : ∀ (s : Shared) (H : Hp) (C : Addr) (cl : List (Str × Addr)) (fp : List Addr), PG (X.blk s H scope (compEnvC scope cl C X.env) fp) tg1 g1) (ht1 : ∀ (s : Shared) (H : Hp) (C : Addr) (cl : List (Str × Addr)) (fp : List Addr), PTs (X.blk s H scope (compEnvC scope cl C X.env) fp) ifs1 tt1)
    (he : ∀ (s : Shared) (H : Hp) (C : Addr) (cl : List (Str × Addr)) (fp : List Addr), PE (X.blk s H scope (compEnvC scope cl C X.env) fp) kx tk)
    (hv' : ∀ (s : Shared) (H : Hp) (C : Addr) (cl : List (Str × Addr)) (fp : List Addr), PE (X.blk s H scope (compEnvC scope cl C X.env) fp) vx tv) (hs : ∀ x, foldedSetIterable iter X.env x = pure x := by intro _; rfl) (hs1 : ∀ env x, foldedSetIterable iter1 env x = pure x := by intro _ _; rfl) :
    PE X (.DictComp kx vx [⟨tg, iter, ifs, 0⟩, ⟨tg1, iter1, ifs1, 0⟩] scope pos) (tDc2 wi g tt wi1 g1 tt1 tk tv (own.map (·.2)) vs1) := by
  refine ⟨fun pins s σ H Q I h => ?_⟩
  rw [arm_eval_DictComp]
  refine dc2_core hu hc hN I hi ok hv hg ht he hv' hs hi1 hg1 ht1 hs1 h fun D C s' m H' I' q hn f => ⟨m, hn, fun h'' sb => ?_⟩
  obtain ⟨f0, f1, f2, f3, f4, f5⟩ := f
  exact ⟨.ref D, H', I'.turned (t' := s'.toks) (fun b o hb e => (sb.2 b hb).trans e) f0 f1 f3 f4 f5, rfl, q⟩
end
end L2
namespace Ly
open PySem PySem.Spec PyProof.Rows L2
section
variable {K : PySem.W.Frag} {h : Heap} {mg : Str → Option Value} {fa : List (PySem.W.Frag → Bool)} {fn : List DfX}
theorem SaysX.fact (c : SaysX fa fn K) (i : Nat) {f : PySem.W.Frag → Bool} (h : fa[i]? = some f := by rfl) : f K = true := by
  have c1 := (He.ba (show ((fa.all fun f => f K) && fn.all fun d => d.ok K) = true from congrArg (fun z : AlX => z.1) c)).1
  exact List.all_eq_true.mp c1 f (List.mem_of_getElem? h)
theorem DfX.funD {d : DfX} (e : d.look K = d.val) (c : d.ok K = true) : ∃ fd, FunD K d.name d.qual (defArgs d.st) (defBody d.st) (defScope d.st) (d.dvs K) [] (d.ad K) fd := by
  obtain ⟨kp, c2⟩ := He.ba c
  unfold DfX.look at e
  cases q : K.lookup (d.ad K) with
  | none =>
    rw [q] at c2
    cases c2
  | some o =>
    obtain ⟨oc, od, dt, osl⟩ := o
    rw [q] at c2 e
    cases dt with
    | func fd =>
      obtain ⟨n1, n2, n3, n4, n5, n6, n7, n8, n9, n10, n11, n12, n13, n14, n15⟩ := fd
      have e2 : (some (n1, n2, n3, n4, n5, n6, n7, n15) : He.FnW) = some (d.name, d.qual, defArgs d.st, .stmts (defBody d.st), defScope d.st, mainGlobals, [], builtinsNs) := e
      simp only [Option.some.injEq, Prod.mk.injEq] at e2
      obtain ⟨h1, h2, h3, h4, h5, h6, h7, h8⟩ := e2
      subst h1 h2 h3 h4 h5 h6 h7 h8
      obtain ⟨k1, k3⟩ := He.ba (show (PySem.W.codeIn K n13 d.qual && He.dflB K n8 (d.dvs K)) = true from c2)
      exact ⟨_, ⟨oc, od, n8, n9, n10, n11, n12, n13, n14, osl, rfl, q, k1, He.dflB_ok k3, .inl rfl⟩, kp⟩
    | _ => cases c2
theorem SaysX.def_ (c : SaysX fa fn K) (i : Nat) {d : DfX} (h : fn[i]? = some d := by rfl) : ∃ fd, FunD K d.name d.qual (defArgs d.st) (defBody d.st) (defScope d.st) (d.dvs K) [] (d.ad K) fd := by
  have c2 := (He.ba (show ((fa.all fun f => f K) && fn.all fun d => d.ok K) = true from congrArg (fun z : AlX => z.1) c)).2
  have e : fn.map (fun d => d.look K) = fn.map DfX.val := congrArg (fun z : AlX => z.2) c
  have e2 : (fn.map fun d => d.look K)[i]? = (fn.map DfX.val)[i]? := by rw [e]
  rw [List.getElem?_map, List.getElem?_map, h] at e2
  exact DfX.funD (Option.some.inj e2) (List.all_eq_true.mp c2 d (List.mem_of_getElem? h))
theorem funX {x qual : Str} {st : Stmt} {f : Addr} {fd : FuncData} (F : FunD K x qual (defArgs st) (defBody st) (defScope st) [] [] f fd) : L2.Fun K x qual st f fd := by
  obtain ⟨oc, od, dV, kV, doc, pm, an, cdv, ct, osl, rfl, lk, hcd, hD, hK⟩ := F.ex
  rcases hD with ⟨_, rfl⟩ | ⟨e, _⟩
  · exact fun_mk lk hcd F.kp
  · exact absurd rfl e
theorem bloB_ok (X : K.In h) (G : h.Ns mainGlobals mg) {x : Str} (c : bloB K x = true) : mg x = some (.ref (He.ga K x)) := PySem.W.mg_of X G (He.eqO_ok c)
theorem freB_ok (X : K.In h) (G : h.Ns mainGlobals mg) {x : Str} (c : freB K x = true) : mg x = none := PySem.W.mg_none_of X G (He.eqO_ok c)
theorem biB_ok (X : K.In h) (G : h.Ns mainGlobals mg) {x : Str} {b : String} (c : biB K x b = true) : mg x = some (.builtin b) := PySem.W.mg_of X G (He.eqO_ok c)
theorem rcB_ok {p : Addr} {T : String} (c : rcB K p T = true) : ∃ rest, PySem.W.recIn K p T = some (.ref (rcA K p T) :: rest) := by
  unfold rcB at c
  unfold rcA
  split at c
  · rename_i f r e
    rw [e]
    exact ⟨r, rfl⟩
  · cases c
theorem dec_ok {p : Prop} [Decidable p] (h : decide p = true) : p := of_decide_eq_true h
theorem ownB_ok (X : K.In h) (G : h.Ns mainGlobals mg) {x : Str} (c : ownB K x = true) : OwnC K mg x (He.ga K x) := by
  obtain ⟨h1, c⟩ := He.ba c
  obtain ⟨h2, c⟩ := He.ba c
  obtain ⟨h3, c⟩ := He.ba c
  obtain ⟨h4, c⟩ := He.ba c
  obtain ⟨h5, c⟩ := He.ba c
  obtain ⟨h6, c⟩ := He.ba c
  obtain ⟨h7, c⟩ := He.ba c
  obtain ⟨h8, c⟩ := He.ba c
  obtain ⟨h9, c⟩ := He.ba c
  obtain ⟨h10, c⟩ := He.ba c
  obtain ⟨h11, h12⟩ := He.ba c
  obtain ⟨cd, hcd, _⟩ := mro2_of h5
  exact ⟨bloB_ok X G h1, He.cls_ok h2, h3, h4, h5, dec_ok h6, dec_ok h7, dec_ok h8, h9, kO_mk, kI_mk hcd (dec_ok h10) (dec_ok h6), He.eqO_ok h11, dec_ok h12⟩
theorem noaB_ok {x f : Str} (c : noaB K x f = true) : NoAttr K (He.ga K x) f := He.eqO_ok c
theorem rdB_ok {x : Str} (c : rdB K x = true) : ClX.CRead K (He.ga K x) (.type "type") := ⟨(He.ba c).1, He.eqO_ok (He.ba c).2⟩
theorem gfX {x : Str} {st : Stmt} (X : K.In h) (G : h.Ns mainGlobals mg) (c : bloB K x = true)
    (d : ∃ fd, FunD K x x (defArgs st) (defBody st) (defScope st) [] [] (He.ga K x) fd) : GF K mg x st := by
  obtain ⟨fd, F⟩ := d
  exact ⟨He.ga K x, fd, funX F, bloB_ok X G c⟩
theorem gmX {x m qual : Str} {st : Stmt} (c : metB K x m = true) (d : ∃ fd, FunD K m qual (defArgs st) (defBody st) (defScope st) [] [] (He.ma K (He.ga K x) m) fd) : GM K (He.ga K x) m qual st := by
  obtain ⟨fd, F⟩ := d
  exact ⟨_, fd, funX F, He.meth_ok c⟩
theorem gpX {x m qual : Str} {st : Stmt} (c : prpB K x m = true) (d : ∃ fd, FunD K m qual (defArgs st) (defBody st) (defScope st) [] [] (gpA K x m) fd) : GP K (He.ga K x) m qual st := by
  obtain ⟨fd, F⟩ := d
  obtain ⟨h1, c⟩ := He.ba c
  obtain ⟨h2, c⟩ := He.ba c
  obtain ⟨h3, h4⟩ := He.ba c
  exact ⟨_, _, fd, funX F, ⟨He.eqO_ok h1, He.eqO_ok h2, dec_ok h3, rcB_ok h4⟩⟩
theorem gsX {x m qual : Str} {st : Stmt} (c : staB K x m = true) (d : ∃ fd, FunD K m qual (defArgs st) (defBody st) (defScope st) [] [] (gsA K x m) fd) : GS K (He.ga K x) m qual st := by
  obtain ⟨fd, F⟩ := d
  obtain ⟨h1, c⟩ := He.ba c
  obtain ⟨h2, h3⟩ := He.ba c
  have e : PySem.W.findCls K (.ref (He.ga K x)) (.type "type") m = some (.get (.builtin "staticmethod.__get__") (.ref (stA K x m)) .none (.ref (He.ga K x))) := by
    unfold stA
    split at h2
    · rename_i b p cc e
      obtain ⟨q1, q2⟩ := He.ba h2
      rw [e]
      rw [dec_ok q1, dec_ok q2]
    · cases h2
  exact ⟨_, _, fd, _, funX F, ⟨e, rcB_ok h3, F.kp⟩, rdB_ok h1⟩
theorem giX {x qual : Str} {st : Stmt} {dvs : List V} (c : mkrB K x = true) (d : ∃ fd, FunD K "__init__" qual (defArgs st) (defBody st) (defScope st) dvs [] (He.ma K (He.ga K x) "__init__") fd) : GI K (He.ga K x) qual st dvs := by
  obtain ⟨fd, F⟩ := d
  exact ⟨_, fd, F, He.mkr_ok c⟩
theorem cvX {x m : Str} {i : Int} (c : cvB K x m i = true) : ∃ mc u, ClX.CRead K (He.ga K x) mc ∧ ClX.CVal K (He.ga K x) mc m (.int i) u := by
  obtain ⟨h1, h2⟩ := He.ba c
  split at h2
  · rename_i j t e
    exact ⟨_, _, rdB_ok h1, ⟨e, ⟨t, by rw [dec_ok h2]⟩⟩⟩
  · cases h2
end
theorem walk_ofX {l : PySem.W.OpenLaw} {n k : Nat} {q : Program} {loose : List Str} {XP : (Str → Option Value) → Heap → Prop} {YP : World → Heap → Prop} {d : DefRec} {x : Str} (hn : l.most = some n) (hn2 : n ≤ sizeLine) (hdf : d.params.defaults = []) (hr : Room k callerA)
    (F : ∀ (w : World) (mg : Str → Option Value) (fa : Addr) (h : Heap), YP w h → h.Ns mainGlobals mg → mg d.name = some (.ref fa) → ∃ (K : PySem.W.Frag) (fd : FuncData) (sp : Sp), K.In h ∧ (∀ (s : Shared) (u : Value), BindsTo s fd ⟨[u], []⟩ [(x, u)]) ∧
      (∀ (H : Hp) (a : Addr) (ns : List Int), ns.length ≤ n → Only H → SqL K H a (ns.map V.int) → sp [.ref a] H (fun v _ => v = .bl true) fun _ _ _ => False) ∧ ∀ base : Heap, K.In base → base.Ns mainGlobals mg → FnG l.prog w K mg base k fa fd [x] sp) :
    PySem.W.WalkO q loose XP YP l.row.toRowW d [] (fun f vs => PySem.call f vs) := by
  refine Att.attach_call hn hdf fun w s₀ s₁ mg mb fa o pm cd doc a vs ns G Y ho hd hcd hmg hobj hints hlen hg => ?_
  obtain ⟨K, fd, sp, KX, hb, hsp, hF⟩ := F w mg fa _ Y G.T.g hmg
  exact law_callG KX G.T.g G.T.b G.T.builtins G.T.nolimit hg hobj hints (Nat.le_trans hlen hn2) hr hF hb fun H hO hS => hsp H a ns hlen hO hS
end Ly
namespace Lw
open PySem PySem.Spec PyProof.Rows L2 Ly
abbrev N_is_integer : List Str := ["value"]
theorem sc_is_integer : FnScope N_is_integer ["value"] (defScope s_is_integer) := ⟨rfl, rfl, rfl, by decide +kernel, rfl, by decide +kernel, by decide +kernel⟩
theorem bd_is_integer : BindOk "is_integer" "is_integer" s_is_integer ["value"] := fun _ _ _ _ _ _ us hl => match us, hl with | [_], _ => rfl
abbrev N_is_count : List Str := ["value"]
theorem sc_is_count : FnScope N_is_count ["value"] (defScope s_is_count) := ⟨rfl, rfl, rfl, by decide +kernel, rfl, by decide +kernel, by decide +kernel⟩
theorem bd_is_count : BindOk "is_count" "is_count" s_is_count ["value"] := fun _ _ _ _ _ _ us hl => match us, hl with | [_], _ => rfl
abbrev N_is_name : List Str := ["value"]
theorem sc_is_name : FnScope N_is_name ["value"] (defScope s_is_name) := ⟨rfl, rfl, rfl, by decide +kernel, rfl, by decide +kernel, by decide +kernel⟩
theorem bd_is_name : BindOk "is_name" "is_name" s_is_name ["value"] := fun _ _ _ _ _ _ us hl => match us, hl with | [_], _ => rfl
abbrev N_sorted_names : List Str := ["names", "name"]
theorem sc_sorted_names : FnScope N_sorted_names ["names"] (defScope s_sorted_names) := ⟨rfl, rfl, rfl, by decide +kernel, rfl, by decide +kernel, by decide +kernel⟩
theorem bd_sorted_names : BindOk "sorted_names" "sorted_names" s_sorted_names ["names"] := fun _ _ _ _ _ _ us hl => match us, hl with | [_], _ => rfl
abbrev N_Ratio_init : List Str := ["self", "top", "bottom", "common"]
theorem sc_Ratio_init : FnScope N_Ratio_init ["self", "top", "bottom"] (defScope s_Ratio_init) := ⟨rfl, rfl, rfl, by decide +kernel, rfl, by decide +kernel, by decide +kernel⟩
abbrev N_Ratio_of : List Str := ["value"]
theorem sc_Ratio_of : FnScope N_Ratio_of ["value"] (defScope s_Ratio_of) := ⟨rfl, rfl, rfl, by decide +kernel, rfl, by decide +kernel, by decide +kernel⟩
theorem bd_Ratio_of : BindOk "of" "Ratio.of" s_Ratio_of ["value"] := fun _ _ _ _ _ _ us hl => match us, hl with | [_], _ => rfl
abbrev N_Ratio_top : List Str := ["self"]
theorem sc_Ratio_top : FnScope N_Ratio_top ["self"] (defScope s_Ratio_top) := ⟨rfl, rfl, rfl, by decide +kernel, rfl, by decide +kernel, by decide +kernel⟩
theorem bd_Ratio_top : BindOk "top" "Ratio.top" s_Ratio_top ["self"] := fun _ _ _ _ _ _ us hl => match us, hl with | [_], _ => rfl
abbrev N_Ratio_bottom : List Str := ["self"]
theorem sc_Ratio_bottom : FnScope N_Ratio_bottom ["self"] (defScope s_Ratio_bottom) := ⟨rfl, rfl, rfl, by decide +kernel, rfl, by decide +kernel, by decide +kernel⟩
theorem bd_Ratio_bottom : BindOk "bottom" "Ratio.bottom" s_Ratio_bottom ["self"] := fun _ _ _ _ _ _ us hl => match us, hl with | [_], _ => rfl
abbrev N_Ratio_over : List Str := ["self", "other", "second"]
theorem sc_Ratio_over : FnScope N_Ratio_over ["self", "other"] (defScope s_Ratio_over) := ⟨rfl, rfl, rfl, by decide +kernel, rfl, by decide +kernel, by decide +kernel⟩
theorem bd_Ratio_over : BindOk "over" "Ratio.over" s_Ratio_over ["self", "other"] := fun _ _ _ _ _ _ us hl => match us, hl with | [_, _], _ => rfl
abbrev N_Ratio_eq : List Str := ["self", "other"]
theorem sc_Ratio_eq : FnScope N_Ratio_eq ["self", "other"] (defScope s_Ratio_eq) := ⟨rfl, rfl, rfl, by decide +kernel, rfl, by decide +kernel, by decide +kernel⟩
theorem bd_Ratio_eq : BindOk "__eq__" "Ratio.__eq__" s_Ratio_eq ["self", "other"] := fun _ _ _ _ _ _ us hl => match us, hl with | [_, _], _ => rfl
abbrev N_Ratio_repr : List Str := ["self"]
theorem sc_Ratio_repr : FnScope N_Ratio_repr ["self"] (defScope s_Ratio_repr) := ⟨rfl, rfl, rfl, by decide +kernel, rfl, by decide +kernel, by decide +kernel⟩
theorem bd_Ratio_repr : BindOk "__repr__" "Ratio.__repr__" s_Ratio_repr ["self"] := fun _ _ _ _ _ _ us hl => match us, hl with | [_], _ => rfl
abbrev N_is_amount : List Str := ["value"]
theorem sc_is_amount : FnScope N_is_amount ["value"] (defScope s_is_amount) := ⟨rfl, rfl, rfl, by decide +kernel, rfl, by decide +kernel, by decide +kernel⟩
theorem bd_is_amount : BindOk "is_amount" "is_amount" s_is_amount ["value"] := fun _ _ _ _ _ _ us hl => match us, hl with | [_], _ => rfl
abbrev N_sum_of : List Str := ["numbers", "ratios", "bottom", "number", "ratio"]
theorem sc_sum_of : FnScope N_sum_of ["numbers"] (defScope s_sum_of) := ⟨rfl, rfl, rfl, by decide +kernel, rfl, by decide +kernel, by decide +kernel⟩
theorem bd_sum_of : BindOk "sum_of" "sum_of" s_sum_of ["numbers"] := fun _ _ _ _ _ _ us hl => match us, hl with | [_], _ => rfl
abbrev N_common_bottom : List Str := ["ratios", "common", "ratio"]
theorem sc_common_bottom : FnScope N_common_bottom ["ratios"] (defScope s_common_bottom) := ⟨rfl, rfl, rfl, by decide +kernel, rfl, by decide +kernel, by decide +kernel⟩
theorem bd_common_bottom : BindOk "common_bottom" "common_bottom" s_common_bottom ["ratios"] := fun _ _ _ _ _ _ us hl => match us, hl with | [_], _ => rfl
abbrev N_Yard_init : List Str := ["self", "speeds", "tasks", "given", "names", "server", "task", "place"]
theorem sc_Yard_init : FnScope N_Yard_init ["self", "speeds", "tasks"] (defScope s_Yard_init) := ⟨rfl, rfl, rfl, by decide +kernel, rfl, by decide +kernel, by decide +kernel⟩
abbrev N_Yard_tasks : List Str := ["self"]
theorem sc_Yard_tasks : FnScope N_Yard_tasks ["self"] (defScope s_Yard_tasks) := ⟨rfl, rfl, rfl, by decide +kernel, rfl, by decide +kernel, by decide +kernel⟩
theorem bd_Yard_tasks : BindOk "tasks" "Yard.tasks" s_Yard_tasks ["self"] := fun _ _ _ _ _ _ us hl => match us, hl with | [_], _ => rfl
abbrev N_Yard_total : List Str := ["self"]
theorem sc_Yard_total : FnScope N_Yard_total ["self"] (defScope s_Yard_total) := ⟨rfl, rfl, rfl, by decide +kernel, rfl, by decide +kernel, by decide +kernel⟩
theorem bd_Yard_total : BindOk "total" "Yard.total" s_Yard_total ["self"] := fun _ _ _ _ _ _ us hl => match us, hl with | [_], _ => rfl
abbrev N_Yard_eq : List Str := ["self", "other"]
theorem sc_Yard_eq : FnScope N_Yard_eq ["self", "other"] (defScope s_Yard_eq) := ⟨rfl, rfl, rfl, by decide +kernel, rfl, by decide +kernel, by decide +kernel⟩
theorem bd_Yard_eq : BindOk "__eq__" "Yard.__eq__" s_Yard_eq ["self", "other"] := fun _ _ _ _ _ _ us hl => match us, hl with | [_, _], _ => rfl
abbrev N_Yard_confined : List Str := ["self", "servers", "task", "places", "place"]
theorem sc_Yard_confined : FnScope N_Yard_confined ["self", "servers"] (defScope s_Yard_confined) := ⟨rfl, rfl, rfl, by decide +kernel, rfl, by decide +kernel, by decide +kernel⟩
theorem bd_Yard_confined : BindOk "confined" "Yard.confined" s_Yard_confined ["self", "servers"] := fun _ _ _ _ _ _ us hl => match us, hl with | [_, _], _ => rfl
abbrev N_Yard_weight : List Str := ["self", "servers", "task"]
theorem sc_Yard_weight : FnScope N_Yard_weight ["self", "servers"] (defScope s_Yard_weight) := ⟨rfl, rfl, rfl, by decide +kernel, rfl, by decide +kernel, by decide +kernel⟩
theorem bd_Yard_weight : BindOk "weight" "Yard.weight" s_Yard_weight ["self", "servers"] := fun _ _ _ _ _ _ us hl => match us, hl with | [_, _], _ => rfl
abbrev N_Yard_speed_of : List Str := ["self", "servers", "server"]
theorem sc_Yard_speed_of : FnScope N_Yard_speed_of ["self", "servers"] (defScope s_Yard_speed_of) := ⟨rfl, rfl, rfl, by decide +kernel, rfl, by decide +kernel, by decide +kernel⟩
theorem bd_Yard_speed_of : BindOk "speed_of" "Yard.speed_of" s_Yard_speed_of ["self", "servers"] := fun _ _ _ _ _ _ us hl => match us, hl with | [_, _], _ => rfl
abbrev N_Yard_density : List Str := ["self", "servers"]
theorem sc_Yard_density : FnScope N_Yard_density ["self", "servers"] (defScope s_Yard_density) := ⟨rfl, rfl, rfl, by decide +kernel, rfl, by decide +kernel, by decide +kernel⟩
theorem bd_Yard_density : BindOk "density" "Yard.density" s_Yard_density ["self", "servers"] := fun _ _ _ _ _ _ us hl => match us, hl with | [_, _], _ => rfl
abbrev N_Yard_check_set : List Str := ["self", "servers"]
theorem sc_Yard_check_set : FnScope N_Yard_check_set ["self", "servers"] (defScope s_Yard_check_set) := ⟨rfl, rfl, rfl, by decide +kernel, rfl, by decide +kernel, by decide +kernel⟩
theorem bd_Yard_check_set : BindOk "_check_set" "Yard._check_set" s_Yard_check_set ["self", "servers"] := fun _ _ _ _ _ _ us hl => match us, hl with | [_, _], _ => rfl
abbrev N_is_speed : List Str := ["value"]
theorem sc_is_speed : FnScope N_is_speed ["value"] (defScope s_is_speed) := ⟨rfl, rfl, rfl, by decide +kernel, rfl, by decide +kernel, by decide +kernel⟩
theorem bd_is_speed : BindOk "is_speed" "is_speed" s_is_speed ["value"] := fun _ _ _ _ _ _ us hl => match us, hl with | [_], _ => rfl
abbrev N_is_set_of : List Str := ["value", "servers", "name"]
theorem sc_is_set_of : FnScope N_is_set_of ["value", "servers"] (defScope s_is_set_of) := ⟨rfl, rfl, rfl, by decide +kernel, rfl, by decide +kernel, by decide +kernel⟩
theorem bd_is_set_of : BindOk "is_set_of" "is_set_of" s_is_set_of ["value", "servers"] := fun _ _ _ _ _ _ us hl => match us, hl with | [_, _], _ => rfl
abbrev N_is_task : List Str := ["value", "servers", "work", "places"]
theorem sc_is_task : FnScope N_is_task ["value", "servers"] (defScope s_is_task) := ⟨rfl, rfl, rfl, by decide +kernel, rfl, by decide +kernel, by decide +kernel⟩
theorem bd_is_task : BindOk "is_task" "is_task" s_is_task ["value", "servers"] := fun _ _ _ _ _ _ us hl => match us, hl with | [_, _], _ => rfl
abbrev N_is_name_dict : List Str := ["value", "name"]
theorem sc_is_name_dict : FnScope N_is_name_dict ["value"] (defScope s_is_name_dict) := ⟨rfl, rfl, rfl, by decide +kernel, rfl, by decide +kernel, by decide +kernel⟩
theorem bd_is_name_dict : BindOk "is_name_dict" "is_name_dict" s_is_name_dict ["value"] := fun _ _ _ _ _ _ us hl => match us, hl with | [_], _ => rfl
abbrev N_check_speeds : List Str := ["speeds", "wrong", "server"]
theorem sc_check_speeds : FnScope N_check_speeds ["speeds"] (defScope s_check_speeds) := ⟨rfl, rfl, rfl, by decide +kernel, rfl, by decide +kernel, by decide +kernel⟩
theorem bd_check_speeds : BindOk "check_speeds" "check_speeds" s_check_speeds ["speeds"] := fun _ _ _ _ _ _ us hl => match us, hl with | [_], _ => rfl
abbrev N_check_tasks : List Str := ["tasks", "servers", "wrong", "name"]
theorem sc_check_tasks : FnScope N_check_tasks ["tasks", "servers"] (defScope s_check_tasks) := ⟨rfl, rfl, rfl, by decide +kernel, rfl, by decide +kernel, by decide +kernel⟩
theorem bd_check_tasks : BindOk "check_tasks" "check_tasks" s_check_tasks ["tasks", "servers"] := fun _ _ _ _ _ _ us hl => match us, hl with | [_, _], _ => rfl
abbrev N_law_pot : List Str := ["_law_script", "_law_k", "_law_cell"]
theorem sc_law_pot : FnScope N_law_pot ["_law_script", "_law_k"] (defScope s_law_pot) := ⟨rfl, rfl, rfl, by decide +kernel, rfl, by decide +kernel, by decide +kernel⟩
theorem bd_law_pot : BindOk "_law_pot" "_law_pot" s_law_pot ["_law_script", "_law_k"] := fun _ _ _ _ _ _ us hl => match us, hl with | [_, _], _ => rfl
abbrev N_law_draw : List Str := ["_law_pot_here", "_law_size", "_law_digit"]
theorem sc_law_draw : FnScope N_law_draw ["_law_pot_here", "_law_size"] (defScope s_law_draw) := ⟨rfl, rfl, rfl, by decide +kernel, rfl, by decide +kernel, by decide +kernel⟩
theorem bd_law_draw : BindOk "_law_draw" "_law_draw" s_law_draw ["_law_pot_here", "_law_size"] := fun _ _ _ _ _ _ us hl => match us, hl with | [_, _], _ => rfl
abbrev N_law_pick : List Str := ["_law_pot_here", "_law_some_here"]
theorem sc_law_pick : FnScope N_law_pick ["_law_pot_here", "_law_some_here"] (defScope s_law_pick) := ⟨rfl, rfl, rfl, by decide +kernel, rfl, by decide +kernel, by decide +kernel⟩
theorem bd_law_pick : BindOk "_law_pick" "_law_pick" s_law_pick ["_law_pot_here", "_law_some_here"] := fun _ _ _ _ _ _ us hl => match us, hl with | [_, _], _ => rfl
abbrev N_law_mixed : List Str := ["_law_pot_here", "_law_some_here", "_law_pack", "_law_turn"]
theorem sc_law_mixed : FnScope N_law_mixed ["_law_pot_here", "_law_some_here"] (defScope s_law_mixed) := ⟨rfl, rfl, rfl, by decide +kernel, rfl, by decide +kernel, by decide +kernel⟩
theorem bd_law_mixed : BindOk "_law_mixed" "_law_mixed" s_law_mixed ["_law_pot_here", "_law_some_here"] := fun _ _ _ _ _ _ us hl => match us, hl with | [_, _], _ => rfl
abbrev N_law_named : List Str := ["_law_pot_here", "_law_size", "_law_taken", "_law_k", "_law_letters", "_law_found", "_law_label", "_law_spare", "_law_turn", "_law_near"]
theorem sc_law_named : FnScope N_law_named ["_law_pot_here", "_law_size", "_law_taken"] (defScope s_law_named) := ⟨rfl, rfl, rfl, by decide +kernel, rfl, by decide +kernel, by decide +kernel⟩
theorem bd_law_named : BindOk "_law_named" "_law_named" s_law_named ["_law_pot_here", "_law_size", "_law_taken"] := fun _ _ _ _ _ _ us hl => match us, hl with | [_, _, _], _ => rfl
abbrev N_law_frac : List Str := ["_law_up", "_law_down", "_law_this", "_law_mate"]
theorem sc_law_frac : FnScope N_law_frac ["_law_up", "_law_down"] (defScope s_law_frac) := ⟨rfl, rfl, rfl, by decide +kernel, rfl, by decide +kernel, by decide +kernel⟩
theorem bd_law_frac : BindOk "_law_frac" "_law_frac" s_law_frac ["_law_up", "_law_down"] := fun _ _ _ _ _ _ us hl => match us, hl with | [_, _], _ => rfl
abbrev N_law_sum : List Str := ["_law_some_here", "_law_up", "_law_down", "_law_this", "_law_mate"]
theorem sc_law_sum : FnScope N_law_sum ["_law_some_here"] (defScope s_law_sum) := ⟨rfl, rfl, rfl, by decide +kernel, rfl, by decide +kernel, by decide +kernel⟩
theorem bd_law_sum : BindOk "_law_sum" "_law_sum" s_law_sum ["_law_some_here"] := fun _ _ _ _ _ _ us hl => match us, hl with | [_], _ => rfl
abbrev N_law_times : List Str := ["_law_this", "_law_mate"]
theorem sc_law_times : FnScope N_law_times ["_law_this", "_law_mate"] (defScope s_law_times) := ⟨rfl, rfl, rfl, by decide +kernel, rfl, by decide +kernel, by decide +kernel⟩
theorem bd_law_times : BindOk "_law_times" "_law_times" s_law_times ["_law_this", "_law_mate"] := fun _ _ _ _ _ _ us hl => match us, hl with | [_, _], _ => rfl
abbrev N_law_number : List Str := ["_law_pot_here", "_law_some_here", "_law_scale"]
theorem sc_law_number : FnScope N_law_number ["_law_pot_here", "_law_some_here"] (defScope s_law_number) := ⟨rfl, rfl, rfl, by decide +kernel, rfl, by decide +kernel, by decide +kernel⟩
theorem bd_law_number : BindOk "_law_number" "_law_number" s_law_number ["_law_pot_here", "_law_some_here"] := fun _ _ _ _ _ _ us hl => match us, hl with | [_, _], _ => rfl
abbrev N_law_some : List Str := ["_law_pot_here", "_law_some_here"]
theorem sc_law_some : FnScope N_law_some ["_law_pot_here", "_law_some_here"] (defScope s_law_some) := ⟨rfl, rfl, rfl, by decide +kernel, rfl, by decide +kernel, by decide +kernel⟩
theorem bd_law_some : BindOk "_law_some" "_law_some" s_law_some ["_law_pot_here", "_law_some_here"] := fun _ _ _ _ _ _ us hl => match us, hl with | [_, _], _ => rfl
abbrev N_law_any : List Str := ["_law_pot_here", "_law_many", "_law_size", "_law_homes", "_law_rates", "_law_labels", "_law_toils", "_law_rows", "_law_label", "_law_spot", "_law_toil"]
theorem sc_law_any : FnScope N_law_any ["_law_pot_here", "_law_many", "_law_size"] (defScope s_law_any) := ⟨rfl, rfl, rfl, by decide +kernel, rfl, by decide +kernel, by decide +kernel⟩
theorem bd_law_any : BindOk "_law_any" "_law_any" s_law_any ["_law_pot_here", "_law_many", "_law_size"] := fun _ _ _ _ _ _ us hl => match us, hl with | [_, _, _], _ => rfl
abbrev N_law_sets : List Str := ["_law_some_here", "_law_found", "_law_this", "_law_part"]
theorem sc_law_sets : FnScope N_law_sets ["_law_some_here"] (defScope s_law_sets) := ⟨rfl, rfl, rfl, by decide +kernel, rfl, by decide +kernel, by decide +kernel⟩
theorem bd_law_sets : BindOk "_law_sets" "_law_sets" s_law_sets ["_law_some_here"] := fun _ _ _ _ _ _ us hl => match us, hl with | [_], _ => rfl
abbrev N_law_is_within : List Str := ["_law_some_here", "_law_part", "_law_this"]
theorem sc_law_is_within : FnScope N_law_is_within ["_law_some_here", "_law_part"] (defScope s_law_is_within) := ⟨rfl, rfl, rfl, by decide +kernel, rfl, by decide +kernel, by decide +kernel⟩
theorem bd_law_is_within : BindOk "_law_is_within" "_law_is_within" s_law_is_within ["_law_some_here", "_law_part"] := fun _ _ _ _ _ _ us hl => match us, hl with | [_, _], _ => rfl
abbrev N_law_weight : List Str := ["_law_model", "_law_part", "_law_toil", "_law_homes"]
theorem sc_law_weight : FnScope N_law_weight ["_law_model", "_law_part"] (defScope s_law_weight) := ⟨rfl, rfl, rfl, by decide +kernel, rfl, by decide +kernel, by decide +kernel⟩
theorem bd_law_weight : BindOk "_law_weight" "_law_weight" s_law_weight ["_law_model", "_law_part"] := fun _ _ _ _ _ _ us hl => match us, hl with | [_, _], _ => rfl
abbrev N_law_rate : List Str := ["_law_model", "_law_part", "_law_spot"]
theorem sc_law_rate : FnScope N_law_rate ["_law_model", "_law_part"] (defScope s_law_rate) := ⟨rfl, rfl, rfl, by decide +kernel, rfl, by decide +kernel, by decide +kernel⟩
theorem bd_law_rate : BindOk "_law_rate" "_law_rate" s_law_rate ["_law_model", "_law_part"] := fun _ _ _ _ _ _ us hl => match us, hl with | [_, _], _ => rfl
abbrev N_law_yard : List Str := ["_law_pot_here", "_law_model", "_law_rates", "_law_rows", "_law_label", "_law_toil", "_law_homes", "_law_spot"]
theorem sc_law_yard : FnScope N_law_yard ["_law_pot_here", "_law_model"] (defScope s_law_yard) := ⟨rfl, rfl, rfl, by decide +kernel, rfl, by decide +kernel, by decide +kernel⟩
theorem bd_law_yard : BindOk "_law_yard" "_law_yard" s_law_yard ["_law_pot_here", "_law_model"] := fun _ _ _ _ _ _ us hl => match us, hl with | [_, _], _ => rfl
abbrev N_law_due : List Str := ["_law_model", "_law_part", "_law_own", "_law_dense", "_law_heavy", "_law_rate_here", "_law_label"]
theorem sc_law_due : FnScope N_law_due ["_law_model", "_law_part"] (defScope s_law_due) := ⟨rfl, rfl, rfl, by decide +kernel, rfl, by decide +kernel, by decide +kernel⟩
theorem bd_law_due : BindOk "_law_due" "_law_due" s_law_due ["_law_model", "_law_part"] := fun _ _ _ _ _ _ us hl => match us, hl with | [_, _], _ => rfl
abbrev N_law_part_right : List Str := ["_law_pot_here", "_law_model", "_law_made", "_law_part", "_law_handed", "_law_shown", "_law_told", "_law_again", "_law_due_here"]
theorem sc_law_part_right : FnScope N_law_part_right ["_law_pot_here", "_law_model", "_law_made", "_law_part"] (defScope s_law_part_right) := ⟨rfl, rfl, rfl, by decide +kernel, rfl, by decide +kernel, by decide +kernel⟩
theorem bd_law_part_right : BindOk "_law_part_right" "_law_part_right" s_law_part_right ["_law_pot_here", "_law_model", "_law_made", "_law_part"] := fun _ _ _ _ _ _ us hl => match us, hl with | [_, _, _, _], _ => rfl
abbrev N_law_right : List Str := ["_law_pot_here", "_law_model", "_law_part", "_law_made", "_law_mate"]
theorem sc_law_right : FnScope N_law_right ["_law_pot_here"] (defScope s_law_right) := ⟨rfl, rfl, rfl, by decide +kernel, rfl, by decide +kernel, by decide +kernel⟩
theorem bd_law_right : BindOk "_law_right" "_law_right" s_law_right ["_law_pot_here"] := fun _ _ _ _ _ _ us hl => match us, hl with | [_], _ => rfl
abbrev N_law : List Str := ["_law_script", "_law_k"]
theorem sc_law : FnScope N_law ["_law_script"] (defScope s_law) := ⟨rfl, rfl, rfl, by decide +kernel, rfl, by decide +kernel, by decide +kernel⟩
structure Ad where
  Ratio : Addr
  Yard : Addr
structure Txt (K : PySem.W.Frag) (mg : Str → Option Value) (a : Ad) : Prop where
  o_Ratio : OwnC K mg "Ratio" a.Ratio
  n_Ratio_top : NoAttr K a.Ratio "_top"
  n_Ratio_bottom : NoAttr K a.Ratio "_bottom"
  o_Yard : OwnC K mg "Yard" a.Yard
  n_Yard_speeds : NoAttr K a.Yard "_speeds"
  n_Yard_works : NoAttr K a.Yard "_works"
  n_Yard_places : NoAttr K a.Yard "_places"
  n_Yard_pairs : NoAttr K a.Yard "_pairs"
  d_is_integer : GF K mg "is_integer" s_is_integer
  d_is_count : GF K mg "is_count" s_is_count
  d_is_name : GF K mg "is_name" s_is_name
  d_sorted_names : GF K mg "sorted_names" s_sorted_names
  d_Ratio_init : GI K a.Ratio "Ratio.__init__" s_Ratio_init [.int 1]
  d_Ratio_of : GS K a.Ratio "of" "Ratio.of" s_Ratio_of
  d_Ratio_top : GP K a.Ratio "top" "Ratio.top" s_Ratio_top
  d_Ratio_bottom : GP K a.Ratio "bottom" "Ratio.bottom" s_Ratio_bottom
  d_Ratio_over : GM K a.Ratio "over" "Ratio.over" s_Ratio_over
  d_Ratio_eq : GM K a.Ratio "__eq__" "Ratio.__eq__" s_Ratio_eq
  d_Ratio_repr : GM K a.Ratio "__repr__" "Ratio.__repr__" s_Ratio_repr
  d_is_amount : GF K mg "is_amount" s_is_amount
  d_sum_of : GF K mg "sum_of" s_sum_of
  d_common_bottom : GF K mg "common_bottom" s_common_bottom
  d_Yard_init : GI K a.Yard "Yard.__init__" s_Yard_init [.non]
  d_Yard_servers : GM K a.Yard "servers" "Yard.servers" s_Yard_servers
  d_Yard_tasks : GM K a.Yard "tasks" "Yard.tasks" s_Yard_tasks
  d_Yard_total : GP K a.Yard "total" "Yard.total" s_Yard_total
  d_Yard_eq : GM K a.Yard "__eq__" "Yard.__eq__" s_Yard_eq
  d_Yard_confined : GM K a.Yard "confined" "Yard.confined" s_Yard_confined
  d_Yard_weight : GM K a.Yard "weight" "Yard.weight" s_Yard_weight
  d_Yard_speed_of : GM K a.Yard "speed_of" "Yard.speed_of" s_Yard_speed_of
  d_Yard_density : GM K a.Yard "density" "Yard.density" s_Yard_density
  d_Yard_check_set : GM K a.Yard "_check_set" "Yard._check_set" s_Yard_check_set
  d_is_speed : GF K mg "is_speed" s_is_speed
  d_is_set_of : GF K mg "is_set_of" s_is_set_of
  d_is_task : GF K mg "is_task" s_is_task
  d_is_name_dict : GF K mg "is_name_dict" s_is_name_dict
  d_check_speeds : GF K mg "check_speeds" s_check_speeds
  d_check_tasks : GF K mg "check_tasks" s_check_tasks
  d_law_pot : GF K mg "_law_pot" s_law_pot
  d_law_draw : GF K mg "_law_draw" s_law_draw
  d_law_pick : GF K mg "_law_pick" s_law_pick
  d_law_mixed : GF K mg "_law_mixed" s_law_mixed
  d_law_named : GF K mg "_law_named" s_law_named
  d_law_frac : GF K mg "_law_frac" s_law_frac
  d_law_sum : GF K mg "_law_sum" s_law_sum
  d_law_times : GF K mg "_law_times" s_law_times
  d_law_number : GF K mg "_law_number" s_law_number
  d_law_some : GF K mg "_law_some" s_law_some
  d_law_any : GF K mg "_law_any" s_law_any
  d_law_sets : GF K mg "_law_sets" s_law_sets
  d_law_is_within : GF K mg "_law_is_within" s_law_is_within
  d_law_weight : GF K mg "_law_weight" s_law_weight
  d_law_rate : GF K mg "_law_rate" s_law_rate
  d_law_yard : GF K mg "_law_yard" s_law_yard
  d_law_due : GF K mg "_law_due" s_law_due
  d_law_part_right : GF K mg "_law_part_right" s_law_part_right
  d_law_right : GF K mg "_law_right" s_law_right
  d_law : GF K mg "law" s_law
  b_abs : mg "abs" = none
  b_len : mg "len" = none
  b_divmod : mg "divmod" = none
  b_max : mg "max" = none
  b_min : mg "min" = none
  b_all : mg "all" = none
  b_int : mg "int" = none
  b_str : mg "str" = none
  b_bool : mg "bool" = none
  b_isinstance : mg "isinstance" = none
  b_range : mg "range" = none
  b_repr : mg "repr" = none
  b_list : mg "list" = none
  b_tuple : mg "tuple" = none
  b_dict : mg "dict" = none
  b_sorted : mg "sorted" = none
  b_zip : mg "zip" = none
  b_sum : mg "sum" = none
  b_set : mg "set" = none
  g_gcd : mg "gcd" = some (.builtin "math.gcd")
  g_lcm : mg "lcm" = some (.builtin "math.lcm")
  c_speed : ∃ mc u, ClX.CRead K a.Yard mc ∧ ClX.CVal K a.Yard mc "MOST_SPEED" (.int 1000) u
  c_servers : ∃ mc u, ClX.CRead K a.Yard mc ∧ ClX.CVal K a.Yard mc "MOST_SERVERS" (.int 12) u
  c_tasks : ∃ mc u, ClX.CRead K a.Yard mc ∧ ClX.CVal K a.Yard mc "MOST_TASKS" (.int 24) u
end Lw
namespace Ly
open PySem PySem.Spec PyProof.Rows L2
def rForJ (J : L2.It) (g : TG) (tb : TS) (D : Ends) (σ : L2.St) (H1 : Hp) : Prop := ∃ W : Nat → Nat → L2.St → Hp → Prop, (∃ m, W 0 m σ H1) ∧ ∀ i m σ H, W i m σ H →
  (J.stop i H ∧ D.nx σ H) ∨ (J.go i H ∧ ∃ N : L2.St → Hp → Prop, (∀ σ' H', N σ' H' → ∃ m', m' < m ∧ W (i + 1) m' σ' H') ∧ ∀ x H', J.yld i H x H' → g x σ H' fun σ2 H2 => tb { D with nx := N, ct := N, bk := D.nx } σ2 H2)
end Ly
namespace Ly
open PySem PySem.Spec PyProof.Rows L2
def leS (x y : Str) : Bool := !decide (y.cps.toList < x.cps.toList)
theorem strs_at {xs : List Str} {its : List Value} (r : Vals (xs.map V.str) its) : its.length = xs.length ∧ ∀ (j : Nat) (h : j < its.toArray.size), ∃ t, its.toArray[j] = .str (xs.getD j Str.empty) t := by
  have e := r.length
  rw [List.length_map] at e
  refine ⟨e.symm, fun j h => ?_⟩
  have hj : j < its.length := by simpa using h
  have hx : (xs.map V.str)[j]? = some (V.str (xs.getD j Str.empty)) := by
    rw [List.getElem?_map, List.getD_eq_getElem?_getD]
    have : j < xs.length := by omega
    simp [this]
  obtain ⟨u, eu, ru⟩ := r.get hx
  obtain ⟨t, rfl⟩ := ru
  refine ⟨t, ?_⟩
  have : its[j]? = some its[j] := List.getElem?_eq_getElem hj
  rw [this] at eu
  simpa using Option.some.inj eu
end Ly
namespace Ly
open PySem PySem.Spec PyProof.Rows L2
end Ly
namespace Ly
open PySem PySem.Spec PyProof.Rows L2
abbrev T3 := Str × Str × Str
end Ly
namespace Ly
open PySem PySem.Spec PyProof.Rows L2
end Ly
namespace Ly
open PySem PySem.Spec PyProof.Rows L2
end Ly
namespace Ly
open PySem PySem.Spec PyProof.Rows L2
end Ly
namespace Ly
open PySem PySem.Spec PyProof.Rows L2
def dT (k : T3) : PyData := .tuple [.str k.1, .str k.2.1, .str k.2.2]
/-- a tuple of three texts -/
def TripAt (H : Hp) (r : Addr) (k : T3) : Prop := H r = some (.tup [.str k.1, .str k.2.1, .str k.2.2])
theorem TripAt.dp {K : PySem.W.Frag} {H : Hp} {r : Addr} {k : T3} (h : TripAt H r k) : Dp K H (.ref r) (dT k) := .tup (SqT.of h) (.cons (.str _) (.cons (.str _) (.cons (.str _) .nil)))
theorem TripAt.same {H H' : Hp} {r : Addr} {k : T3} (h : TripAt H r k) (s : Same H H') : TripAt H' r k := s _ _ h
theorem TripAt.nl {H H' : Hp} {r : Addr} {k : T3} (h : TripAt H r k) (s : NL H H') : TripAt H' r k := s _ _ (fun a z => by cases z) h
/-- a list of tuples of three texts -/
def Trips (H : Hp) (L : List (Addr × T3)) : Prop := ∀ x ∈ L, TripAt H x.1 x.2
def refs {α : Type} (L : List (Addr × α)) : List V := L.map fun x => V.ref x.1
def keys {α : Type} (L : List (Addr × α)) : List α := L.map fun x => x.2
theorem Trips.same {H H' : Hp} {L : List (Addr × T3)} (h : Trips H L) (s : Same H H') : Trips H' L := fun x hx => (h x hx).same s
theorem Trips.nl {H H' : Hp} {L : List (Addr × T3)} (h : Trips H L) (s : NL H H') : Trips H' L := fun x hx => (h x hx).nl s
theorem Trips.dp {K : PySem.W.Frag} {H : Hp} : ∀ {L : List (Addr × T3)}, Trips H L → DpAll K H (refs L) ((keys L).map dT)
  | [], _ => .nil
  | x :: L, h => .cons (h x (List.mem_cons_self ..)).dp (Trips.dp fun y hy => h y (List.mem_cons_of_mem _ hy))
end Ly
namespace Ly
open PySem PySem.Spec PyProof.Rows L2
end Ly
namespace Ly
open PySem PySem.Spec PyProof.Rows L2
theorem pi_tupK {X : Cx} {K : PySem.W.Frag} {e tg : Expr} {te : TE} (hK : X.K = K) (he : PE X e te) : PI X tg e (iTup K te) := by
  subst hK
  exact pi_tup he
theorem pg_tupK {X : Cx} {K : PySem.W.Frag} {es : List Expr} {k : Nat} {pos : Pos} {t : TGs} {n : Nat} (hK : X.K = K) (hc : X.calm = true) (h : PGs X es t)
    (hn : (assignEach es X.env).length = n := by rfl) (hst : (assignEach es X.env).findIdx? (·.1) = none := by rfl) : PG X (.Tuple es k pos) (gTup K n t) := by
  subst hK
  exact pg_tup hc h hn hst
end Ly
namespace Lw
open PySem PySem.Spec PyProof.Rows L2 Ly
local macro_rules | `(tactic| walk_at "rd") => `(tactic| first
  | ((with_reducible refine' i_var ?hv ?_); (case hv => exact rfl))
  | with_reducible refine i_c ?_
  | with_reducible refine i_op ?_
  | with_reducible refine i_cons ?_
  | with_reducible refine i_nil ?_
  | with_reducible refine i_cb ?_
  | with_reducible refine i_call ?_
  | with_reducible refine i_I0 ?_
  | with_reducible refine i_add_i ?_
  | with_reducible refine i_sub_i ?_
  | with_reducible refine i_md_i (by first | decide | assumption) ?_
  | ((with_reducible refine' i_md_i ?c ?_); rotate_left)
  | ((with_reducible refine' i_mul_i ?c ?_); rotate_left)
  | with_reducible refine i_fd_i (by decide) ?_
  | ((with_reducible refine' i_fd_i ?c ?_); rotate_left)
  | with_reducible refine i_int ?_
  | with_reducible refine i_abs ?_
  | with_reducible refine i_max2 ?_
  | with_reducible refine i_min2 ?_
  | with_reducible refine i_gcd ?_
  | with_reducible refine i_seq ?_
  | with_reducible refine i_if ?_
  | with_reducible refine i_asg ?_
  | with_reducible refine i_ret ?_
  | with_reducible refine i_drop ?_
  | with_reducible refine i_next ?_
  | with_reducible refine i_un ?_
  | with_reducible refine i_U ?_
  | ((with_reducible refine i_gname ?_); dsimp only [List.set])
  | with_reducible refine i_test ?_
  | with_reducible refine i_not ?_
  | with_reducible refine i_or ?_
  | with_reducible refine i_and ?_
  | with_reducible refine i_tb ?_
  | with_reducible refine i_andV ?_
  | with_reducible refine i_orV ?_
  | with_reducible refine i_notV ?_
  | with_reducible refine i_ifx ?_
  | with_reducible refine i_ext ?_
  | with_reducible refine i_exf ?_
  | with_reducible refine i_exn ?_
  | with_reducible refine i_itt ?_
  | with_reducible refine i_itf ?_
  | with_reducible refine i_gsub ?_
  | with_reducible refine i_nt ?_
  | with_reducible refine i_tup ?_
  | with_reducible refine i_lst ?_
  | with_reducible refine i_nf ?_
  | with_reducible refine i_isint ?_
  | ((with_reducible refine' i_top ?r ?_); (case r => walk_at "hp"))
  | ((with_reducible refine' i_bot ?r ?_); (case r => walk_at "hp"))
  | with_reducible refine i_fld ?_
  | with_reducible refine i_sfld ?_
  | with_reducible refine i_pp ?_
  | with_reducible refine i_meth ?_
  | with_reducible refine i_smeth ?_
  | with_reducible refine i_make ?_
  | with_reducible refine i_sl ?_
  | with_reducible refine i_noPart ?_
  | with_reducible refine i_part ?_
  | with_reducible refine i_smethK ?_
  | with_reducible refine i_sk1 ?_
  | with_reducible refine i_makeK ?_
  | with_reducible refine i_methK ?_
  | with_reducible refine i_mk11 ?_
  | ((with_reducible refine' i_rmk ?r ?h1 ?h2 ?_); (case r => walk_at "hp"); (case h1 => decide +kernel); (case h2 => decide +kernel))
  | with_reducible refine i_tpar ?_
  | ((with_reducible refine i_rpar ?_); dsimp only [List.set])
  | with_reducible refine i_eq_s rfl ?_
  | with_reducible refine i_ne_s rfl ?_
  | ((with_reducible refine' i_rtop ?r ?c ?n ?_); (case r => walk_at "hp"); (case c => assumption); (case n => assumption))
  | ((with_reducible refine' i_rbot ?r ?c ?n ?_); (case r => walk_at "hp"); (case c => assumption); (case n => assumption))
  | ((with_reducible refine' i_rpp ?r ?_); (case r => walk_at "hp"))
  | ((with_reducible refine' i_rmeth ?r ?h1 ?h2 ?_); (case r => walk_at "hp"); (case h1 => decide +kernel); (case h2 => decide +kernel))
  | ((with_reducible refine' i_ix_l ?hp ?ha ?_); (case hp => walk_at "hp"); (case ha => exact rfl))
  | ((with_reducible refine' i_len_l ?hp ?_); (case hp => walk_at "hp"))
  | ((with_reducible refine' i_ix_f0 ?hp ?_); (case hp => walk_at "hp"))
  | ((with_reducible refine' i_ix_f1 ?hp ?_); (case hp => walk_at "hp"))
  | ((with_reducible refine' i_ix_t ?hp ?ha ?_); (case hp => walk_at "hp"); (case ha => exact rfl)))
local macro_rules | `(tactic| walk_at "hp") => `(tactic| first
  | assumption
  | exact upd_same
  | exact SqL.of (by assumption)
  | (refine' Dr.tup (by assumption) ?hq; (case hq => walk_at "hp"))
  | (refine' FrL.same (by assumption) ?hq; (case hq => walk_at "hp"))
  | (refine' FracAt.same (by assumption) ?hq; (case hq => walk_at "hp"))
  | (refine' FracAt.nl (by assumption) ?hq; (case hq => walk_at "hp"))
  | (refine' RatAt.nl (by assumption) ?hq; (case hq => walk_at "hp"))
  | (refine' Num.nl (by assumption) ?hq; (case hq => walk_at "hp"))
  | (refine' FracAt.pk (by assumption) ?hq; (case hq => walk_at "hp"))
  | (refine' RatAt.pk (by assumption) ?hq; (case hq => walk_at "hp"))
  | (refine' Num.pk (by assumption) ?hq; (case hq => walk_at "hp"))
  | (refine' Dr.keep (by assumption) _ _ (by assumption) ?hq; (case hq => walk_at "hp"))
  | (refine' (show Same _ _ by assumption) _ _ ?hq; (case hq => walk_at "hp"))
  | (refine' RatAt.same (by assumption) ?hq; (case hq => walk_at "hp"))
  | (refine' Num.same (by assumption) ?hq; (case hq => walk_at "hp")))
local macro_rules | `(tactic| walk_at "sm") => `(tactic| first
  | assumption
  | exact Same.refl _
  | (refine' Same.kl (by assumption) (by assumption) ?aa; (case aa => walk_at "sm"))
  | (refine' Same.trans ?aa (by assumption); (case aa => walk_at "sm")))
local macro_rules | `(tactic| walk_at "dr") => `(tactic| first
  | assumption
  | (refine' Dr.same ?aa (by assumption); (case aa => walk_at "dr"))
  | (refine' Dr.trans ?aa (by assumption); (case aa => walk_at "dr")))
variable {W : Wd} {a : Ad}
theorem k_law_draw (T : Txt W.K W.mg a) : Cl W 1 "_law_draw" spDraw := by
  refine cl_of' T.d_law_draw sc_law_draw bd_law_draw (fun vs H Q E ⟨p, n, h, _⟩ => by rw [h]; rfl) fun f cdv A outer s H vs Q E hr h => ?_
  obtain ⟨p, n, rfl, hpot, hn, hz, q⟩ := h
  obtain ⟨a0, b0, hp, ok⟩ := _root_.id hpot
  refine ⟨_, (pss_cons (ps_if (pt_cmpR op_gt (pe_ix (r := rIx W.K) ix_U (pv 0) pe_int (fun _ _ => rfl)) pe_int (nomark _)) (pss_cons (ps_asg (pe_callB call_divmodU (by rfl) T.b_divmod (by decide +kernel) (pa_cons (pe_ix (r := rIx W.K) ix_U (pv 0) pe_int (fun _ _ => rfl)) (pa_cons (pv 1) pa_nil))) (pg_tupK (K := W.K) (n := 2) rfl rfl (pgs_cons (pg_sub (pv 0) pe_int set_list) (pgs_cons (pg_name (i := 2) sc_law_draw.nd rfl (Or.inl rfl)) pgs_nil)))) (pss_one (ps_ret (pv 2)))) pss_nil) (pss_cons (ps_asg (pe_op op_modU (pe_callTy call_int1U (by rfl) T.b_int (by decide +kernel) (pa_cons (pe_op op_addU (pe_op op_mulU (pe_ix (r := rIx W.K) ix_U (pv 0) pe_int (fun _ _ => rfl)) pe_int) pe_int) pa_nil)) pe_int) (pg_sub (pv 0) pe_int set_list)) (pss_one (ps_ret (pe_op op_modU (pe_callTy call_int1U (by rfl) T.b_int (by decide +kernel) (pa_cons (pe_op op_fdivU (pe_op op_modU (pe_callTy call_int1U (by rfl) T.b_int (by decide +kernel) (pa_cons (pe_op op_mulU (pe_ix (r := rIx W.K) ix_U (pv 0) pe_int (fun _ _ => rfl)) (pe_ix (r := rIx W.K) ix_U (pv 0) pe_int (fun _ _ => rfl))) pa_nil)) pe_int) pe_int) pa_nil)) (pv 1)))))), ?_⟩
  refine i_start (σ' := [some (V.ref p), some (V.int n), none]) rfl ?_
  repeat walk_at "rd"
  refine i_dec (fun h0 => ?_) (fun h0 => ?_)
  · repeat walk_at "rd"
    refine i_dm (cdivp hn hz) fun t H1 nt ht s1 => ?_
    refine ⟨t, _, rfl, SqT.of ht, rfl, _, _, rfl, ?_⟩
    repeat walk_at "rd"
    refine ⟨p, _, _, 0, rfl, rfl, s1 _ _ hp, rfl, _, _, rfl, ?_⟩
    repeat walk_at "rd"
    refine ⟨rfl, ?_⟩
    repeat walk_at "rd"
    refine q _ _ (Int.emod_nonneg _ (by omega)) (Int.emod_lt_of_pos _ hn) ⟨fun c o hc e => ?_, hpot, a0 / n, b0, upd_same, Int.ediv_nonneg ok.ha (by omega), ok.hb, ok.hc⟩
    rw [upd_ne hc]
    exact s1 _ _ e
  · repeat walk_at "rd"
    refine ⟨p, _, _, 1, rfl, rfl, hp, rfl, ?_⟩
    have hm := Int.emod_lt_of_pos (b0 * 48271 + 12161) (show (0 : Int) < 2147483587 by decide)
    have hm0 := Int.emod_nonneg (b0 * 48271 + 12161) (show (2147483587 : Int) ≠ 0 by decide)
    have ok2 : PotOk a0 ((b0 * 48271 + 12161) % 2147483587) := ⟨ok.ha, hm0, by omega⟩
    have hp2 : upd H p (HO.lst ([V.int a0, V.int b0].set 1 (V.int ((b0 * 48271 + 12161) % 2147483587)))) p = some (HO.lst [V.int a0, V.int ((b0 * 48271 + 12161) % 2147483587)]) := upd_same
    repeat walk_at "rd"
    · refine q _ _ (Int.emod_nonneg _ (by omega)) (Int.emod_lt_of_pos _ hn) ⟨fun c o hc e => ?_, hpot, _, _, hp2, ok2⟩
      rw [upd_ne hc]
      exact e
    · exact wide_mul (a := 31) (b := 16) (by have := ok.hb; have := ok.hc; omega) (by decide) (by decide) (by decide) (by decide)
    · exact wide_mul (a := 31) (b := 31) (by have := ok2.hb; have := ok2.hc; omega) (by have := ok2.hb; have := ok2.hc; omega) (by decide) (by decide) (by decide)
    · exact wide_div (b := 4) (by decide) (by decide) (by decide) (by decide)
theorem k_law_frac (T : Txt W.K W.mg a) : Cl W 1 "_law_frac" spFrac := by
  refine cl_of' T.d_law_frac sc_law_frac bd_law_frac (fun vs H Q E ⟨u, d, h, _⟩ => by rw [h]; rfl) fun f cdv A outer s H vs Q E hr h => ?_
  obtain ⟨u, d, rfl, hd, z1, z2, q⟩ := h
  refine ⟨_, (pss_cons (ps_par (i := 2) (j := 3) (by rfl) sc_law_frac.nd rfl rfl (by decide) rfl rfl (pa_cons (pe_callB call_absU (by rfl) T.b_abs (by decide +kernel) (pa_cons (pv 0) pa_nil)) (pa_cons (pe_callB call_absU (by rfl) T.b_abs (by decide +kernel) (pa_cons (pv 1) pa_nil)) pa_nil)) (by rfl)) (pss_cons (ps_while PassesOwn.never (pt_cmpR op_gt (pv 3) pe_int (nomark _)) (pss_one (ps_par (i := 2) (j := 3) (by rfl) sc_law_frac.nd rfl rfl (by decide) rfl rfl (pa_cons (pv 3) (pa_cons (pe_op op_subU (pv 2) (pe_op op_mulU (pe_op op_fdivU (pv 2) (pv 3)) (pv 3))) pa_nil)) (by rfl)))) (pss_cons (ps_if (pt_cmpR op_lt (pv 1) pe_int (nomark _)) (pss_one (ps_par (i := 0) (j := 1) (by rfl) sc_law_frac.nd rfl rfl (by decide) rfl rfl (pa_cons (pe_op op_subU pe_int (pv 0)) (pa_cons (pe_op op_subU pe_int (pv 1)) pa_nil)) (by rfl))) pss_nil) (pss_one (ps_ret (pe_tup (pa_cons (pe_op op_fdivU (pv 0) (pe_callB (call_max2U rfl) (by rfl) T.b_max (by decide +kernel) (pa_cons pe_int (pa_cons (pv 2) pa_nil)))) (pa_cons (pe_op op_fdivU (pv 1) (pe_callB (call_max2U rfl) (by rfl) T.b_max (by decide +kernel) (pa_cons pe_int (pa_cons (pv 2) pa_nil)))) pa_nil)))))))), ?_⟩
  refine i_start (σ' := [some (V.int u), some (V.int d), none, none]) rfl ?_
  repeat walk_at "rd"
  have zabs : ∀ {x : Int}, Sz 8900 x → Sz 8900 (if x < 0 then -x else x) := fun z => sz_absI z
  refine ⟨fun m σ H' => ∃ x y : Int, m = y.toNat ∧ σ = [some (V.int u), some (V.int d), some (V.int x), some (V.int y)] ∧ H' = H ∧ 0 ≤ x ∧ 0 ≤ y ∧ Int.gcd x y = Int.gcd u d ∧ Sz 8900 x ∧ Sz 8900 y,
    ⟨_, _, _, rfl, rfl, rfl, by split <;> omega, by split <;> omega, ?_, zabs z1, zabs z2⟩, ?_⟩
  · have e : ∀ x : Int, (if x < 0 then -x else x) = (x.natAbs : Int) := fun x => by split <;> omega
    rw [e, e]
    simp [Int.gcd]
  rintro m σ H' ⟨x, y, rfl, rfl, rfl, hx, hy, hg, zx, zy⟩
  repeat walk_at "rd"
  refine i_dec (fun h0 => ?_) (fun h0 => ?_)
  · have e0 : x - x / y * y = x % y := by
      have h1 := Int.mul_ediv_add_emod x y
      have h2 := Int.mul_comm y (x / y)
      omega
    have m0 := Int.emod_nonneg x (show y ≠ 0 by omega)
    have m1 := Int.emod_lt_of_pos x h0
    have zq : Sz 8900 (x / y) := sz_ediv zx
    refine ⟨fun σ' H2 => σ' = [some (V.int u), some (V.int d), some (V.int y), some (V.int (x - x / y * y))] ∧ H2 = H', fun σ' H2 h => ?_, ?_⟩
    · obtain ⟨rfl, rfl⟩ := h
      refine ⟨_, ?_, y, x - x / y * y, rfl, rfl, rfl, hy, by omega, ?_, zy, sz_le zy (by omega)⟩
      · omega
      · rw [Int.gcd_sub_mul_right_right, Int.gcd_comm]
        exact hg
    · repeat walk_at "rd"
      · exact ⟨rfl, rfl⟩
      · exact ⟨h0, by
          have := PySem.Flt.log2_lt_of (n := y.natAbs) (k := 8900) (by decide) zy
          omega⟩
      · exact cmul_sz zq zy
  · have ex : x = G u d := by
      have : y = 0 := by omega
      rw [this, Int.gcd_zero_right] at hg
      unfold G
      omega
    have gp := G_pos (t := u) hd
    have em : (if x > 1 then x else 1) = G u d := by split <;> omega
    have zG : ∀ z : Int, CDivW z (G u d) := fun z => by
      have := PySem.Flt.log2_lt_of (n := (G u d).natAbs) (k := 8900) (by decide) (by rw [← ex]; exact zx)
      exact ⟨gp, by omega⟩
    repeat walk_at "rd"
    refine i_dec (fun h2 => ?_) (fun h2 => ?_)
    · have e1 : (0 - u) / G u d = Nu u d := by
        unfold Nu
        rw [if_neg (by omega), Int.zero_sub]
      have e2 : (0 - d) / G u d = De u d := by
        unfold De
        rw [if_neg (by omega), Int.zero_sub]
      repeat walk_at "rd"
      · rw [em, e1, e2]
        exact i_mkT2 fun r H1 nr hr' s1 => q r H1 nr s1 hr'
      all_goals (rw [em]; exact zG _)
    · have e1 : u / G u d = Nu u d := by
        unfold Nu
        rw [if_pos (by omega)]
      have e2 : d / G u d = De u d := by
        unfold De
        rw [if_pos (by omega)]
      repeat walk_at "rd"
      · rw [em, e1, e2]
        exact i_mkT2 fun r H1 nr hr' s1 => q r H1 nr s1 hr'
      all_goals (rw [em]; exact zG _)
end Lw
namespace Dt
open PySem PySem.Spec PyProof.Rows L2 Ly
/-- what a name or a result is: unknown; data that many may hold; a container that this name alone holds; a new one; the pot; a value as it is -/
inductive Rv where
  | un | d (x : D) | own (p : Addr) (x : D) | new (x : D) | pot | raw (v : V)
def AtO (X : Xs) (H : Hp) (p : Addr) : D → Prop
  | .lst ds => ∃ vs, H p = some (.lst vs) ∧ Ats (cut X H) vs ds
  | .dct kd => ∃ kv, H p = some (.dK kv) ∧ kv.map (·.1) = kd.map (·.1) ∧ Ats (cut X H) (kv.map (·.2)) (kd.map (·.2))
  | .dcT kd => ∃ kv, H p = some (.dT kv) ∧ kv.map (·.1) = kd.map (·.1) ∧ Ats (cut X H) (kv.map (·.2)) (kd.map (·.2))
  | .obj C fd => ∃ dx fs, H p = some (.ins C dx fs) ∧ fs.map (·.1) = fd.map (·.1) ∧ Ats (cut X H) (fs.map (·.2)) (fd.map (·.2))
  | _ => False
abbrev Po := Option Addr
def plus (X : Xs) (p : Addr) : Xs := fun a => X a ∨ a = p
def RAt (π : Po) (X : Xs) (H0 H : Hp) : Rv → V → Prop
  | .un, _ => True
  | .d x, v => At (cut X H) v x
  | .own p x, v => v = .ref p ∧ X p ∧ π ≠ some p ∧ AtO X H p x
  | .new x, v => ∃ p, v = .ref p ∧ H0 p = none ∧ AtO (plus X p) H p x
  | .pot, v => ∃ q, π = some q ∧ v = .ref q
  | .raw w, v => v = w
structure Ok (π : Po) (X : Xs) (H : Hp) : Prop where
  dom : ∀ p, X p → H p ≠ none
  pot : ∀ q, π = some q → X q ∧ Pot H q
/-- what a piece of code leaves: all that was there but the pot -/
structure Kp (π : Po) (H H' : Hp) : Prop where
  keep : ∀ a o, π ≠ some a → H a = some o → H' a = some o
  pot : ∀ q, π = some q → Pot H' q
theorem Ok.kp {π : Po} {X : Xs} {H : Hp} (o : Ok π X H) : Kp π H H := ⟨fun _ _ _ e => e, fun q e => (o.pot q e).2⟩
theorem Kp.trans {π : Po} {H H1 H2 : Hp} (a : Kp π H H1) (b : Kp π H1 H2) : Kp π H H2 := ⟨fun c o n e => b.keep c o n (a.keep c o n e), b.pot⟩
theorem Kp.free {π : Po} {X : Xs} {H H' : Hp} (k : Kp π H H') {p : Addr} (o : Ok π X H) (e : H' p = none) : H p = none := by
  cases h : H p with
  | none => rfl
  | some u =>
    by_cases hp : π = some p
    · obtain ⟨a, b, h', _⟩ := k.pot p hp
      rw [e] at h'
      cases h'
    · rw [k.keep p u hp h] at e
      cases e
theorem Kp.of_same {π : Po} {X : Xs} {H H' : Hp} (o : Ok π X H) (s : Same H H') : Kp π H H' := ⟨fun a u _ e => s a u e, fun q e => by
  obtain ⟨a, b, h, g⟩ := (o.pot q e).2
  exact ⟨a, b, s _ _ h, g⟩⟩
theorem Kp.same {H H' : Hp} (k : Kp none H H') : Same H H' := fun a u e => k.keep a u (fun z => by cases z) e
theorem Kp.of_dr {q : Addr} {H H' : Hp} (d : Dr q H H') : Kp (some q) H H' := ⟨fun a o n e => d.keep a o (fun z => n (by rw [z])) e, fun p e => by cases e; exact d.pot'⟩
theorem Kp.dr {q : Addr} {H H' : Hp} (h : Pot H q) (k : Kp (some q) H H') : Dr q H H' := ⟨fun a o n e => k.keep a o (fun z => n (by cases z; rfl)) e, h, k.pot q rfl⟩
theorem Kp.add {π : Po} {X : Xs} {H H' : Hp} {p : Addr} {o : HO} (k : Kp π H H') (ok : Ok π X H) (h : H p = none) : Kp π H (upd H' p o) :=
  ⟨fun a u n e => by rw [upd_ne (ne_of_none e h)]; exact k.keep a u n e, fun q e => by
    obtain ⟨a, b, h', g⟩ := k.pot q e
    obtain ⟨a', b', h2, _⟩ := (ok.pot q e).2
    exact ⟨a, b, by rw [upd_ne (ne_of_none h2 h)]; exact h', g⟩⟩
theorem Ok.keep {π : Po} {X : Xs} {H H' : Hp} (o : Ok π X H) (k : Kp π H H') : Ok π X H' := ⟨fun p x e => o.dom p x (k.free o e), fun q e => ⟨(o.pot q e).1, k.pot q e⟩⟩
theorem Ok.mo {π : Po} {X : Xs} {H H' : Hp} (o : Ok π X H) (k : Kp π H H') : Mo (cut X H) (cut X H') :=
  cut_keep (fun a u n e => k.keep a u (fun z => n (o.pot a z).1) e) fun _ _ n _ => n
theorem AtO.keep {X : Xs} {H H' : Hp} {p : Addr} {x : D} (h : ∀ o, H p = some o → H' p = some o) (m : Mo (cut X H) (cut X H')) (a : AtO X H p x) : AtO X H' p x := by
  cases x with
  | lst ds => obtain ⟨vs, e, t⟩ := a; exact ⟨vs, h _ e, t.mono m⟩
  | dct kd => obtain ⟨kv, e, e2, t⟩ := a; exact ⟨kv, h _ e, e2, t.mono m⟩
  | dcT kd => obtain ⟨kv, e, e2, t⟩ := a; exact ⟨kv, h _ e, e2, t.mono m⟩
  | obj C fd => obtain ⟨dx, fs, e, e2, t⟩ := a; exact ⟨dx, fs, h _ e, e2, t.mono m⟩
  | _ => exact a
theorem RAt.keep {π : Po} {X : Xs} {H0 H H' : Hp} {r : Rv} {v : V} (o : Ok π X H) (ok0 : Kp π H0 H) (o0 : Ok π X H0) (k : Kp π H H') (a : RAt π X H0 H r v) : RAt π X H0 H' r v := by
  cases r with
  | un => trivial
  | d x => exact At.mono (o.mo k) a
  | own p x =>
    obtain ⟨e, xp, np, t⟩ := a
    exact ⟨e, xp, np, t.keep (fun u e => k.keep p u np e) (o.mo k)⟩
  | new x =>
    obtain ⟨p, e, n, t⟩ := a
    have np : π ≠ some p := fun z => o0.dom p (o0.pot p z).1 n
    exact ⟨p, e, n, t.keep (fun u e => k.keep p u np e) (cut_keep (fun a u n e => k.keep a u (fun z => n (.inl (o.pot a z).1)) e) fun _ _ n _ => n)⟩
  | pot => exact a
  | raw w => exact a
theorem RAt.base {π : Po} {X : Xs} {H0 H1 H : Hp} {r : Rv} {v : V} (o0 : Ok π X H0) (k : Kp π H0 H1) (a : RAt π X H1 H r v) : RAt π X H0 H r v := by
  cases r with
  | new x =>
    obtain ⟨p, e, n, t⟩ := a
    exact ⟨p, e, k.free o0 n, t⟩
  | _ => exact a
def SAt (π : Po) (X : Xs) (H : Hp) (r : Rv) (o : Option V) : Prop := match r with
  | .un => True
  | .d x => ∃ v, o = some v ∧ At (cut X H) v x
  | r => ∃ v, o = some v ∧ RAt π X H H r v
theorem SAt.of {π : Po} {X : Xs} {H : Hp} {r : Rv} {v : V} (a : RAt π X H H r v) : SAt π X H r (some v) := by
  cases r with
  | un => trivial
  | _ => exact ⟨v, rfl, a⟩
theorem SAt.get {π : Po} {X : Xs} {H : Hp} {r : Rv} {o : Option V} (a : SAt π X H r o) (n : r ≠ .un) : ∃ v, o = some v ∧ RAt π X H H r v := by
  cases r with
  | un => exact absurd rfl n
  | _ => exact a
def adr : Rv → Option Addr
  | .own p _ => some p
  | _ => none
/-- the names of a body, by data -/
structure Ev (π : Po) (X : Xs) (H : Hp) (σ : L2.St) (δ : List Rv) : Prop where
  len : σ.length = δ.length
  at_ : ∀ (i : Nat) (r : Rv) (o : Option V), δ[i]? = some r → σ[i]? = some o → SAt π X H r o
  nd : ∀ (i j : Nat) (r s : Rv) (p : Addr), δ[i]? = some r → δ[j]? = some s → adr r = some p → adr s = some p → i = j
theorem Ev.get {π : Po} {X : Xs} {H : Hp} {σ : L2.St} {δ : List Rv} {i : Nat} {r : Rv} (e : Ev π X H σ δ) (h : δ[i]? = some r) (n : r ≠ .un) : ∃ v, σ[i]? = some (some v) ∧ RAt π X H H r v := by
  have hl : i < σ.length := by rw [e.len]; exact (List.getElem?_eq_some_iff.mp h).1
  obtain ⟨v, e1, e2⟩ := (e.at_ i r _ h (List.getElem?_eq_getElem hl)).get n
  exact ⟨v, by rw [List.getElem?_eq_getElem hl, e1], e2⟩
theorem SAt.keep {π : Po} {X : Xs} {H H' : Hp} {r : Rv} {o : Option V} (ok : Ok π X H) (k : Kp π H H') (a : SAt π X H r o) : SAt π X H' r o := by
  cases r with
  | un => trivial
  | new x =>
    obtain ⟨v, e, p, e2, n, t⟩ := a
    cases x with
    | lst ds => obtain ⟨vs, e, _⟩ := t; rw [n] at e; cases e
    | dct ds => obtain ⟨vs, e, _⟩ := t; rw [n] at e; cases e
    | dcT ds => obtain ⟨vs, e, _⟩ := t; rw [n] at e; cases e
    | obj C ds => obtain ⟨dx, vs, e, _⟩ := t; rw [n] at e; cases e
    | _ => exact t.elim
  | d x => obtain ⟨v, e, a⟩ := a; exact ⟨v, e, a.mono (ok.mo k)⟩
  | own p x =>
    obtain ⟨v, e, a⟩ := a
    have z := RAt.keep (H0 := H) (r := .own p x) ok ok.kp ok k a
    exact ⟨v, e, z⟩
  | pot => exact a
  | raw w => exact a
theorem Ev.keep {π : Po} {X : Xs} {H H' : Hp} {σ : L2.St} {δ : List Rv} (ok : Ok π X H) (k : Kp π H H') (e : Ev π X H σ δ) : Ev π X H' σ δ :=
  ⟨e.len, fun i r o h1 h2 => (e.at_ i r o h1 h2).keep ok k, e.nd⟩
def Wp (π : Po) (te : TE) (δ : List Rv) (k : Rv → Prop) : Prop :=
  ∀ (X : Xs) (H : Hp) (σ : L2.St) (Q : VK), Ok π X H → Ev π X H σ δ → (∀ v r H', Kp π H H' → RAt π X H H' r v → k r → Q v H') → te σ H Q
def WpT (π : Po) (tt : TT) (δ : List Rv) (k : Bool → Prop) : Prop :=
  ∀ (X : Xs) (H : Hp) (σ : L2.St) (Q : Bool → Hp → Prop), Ok π X H → Ev π X H σ δ → (∀ b H', Kp π H H' → k b → Q b H') → tt σ H Q
/-- several values, told at one heap -/
def RAts (π : Po) (X : Xs) (H0 H : Hp) : List Rv → List V → Prop
  | [], [] => True
  | r :: rs, v :: vs => RAt π X H0 H r v ∧ RAts π X H0 H rs vs
  | _, _ => False
theorem RAts.keep {π : Po} {X : Xs} {H0 H H' : Hp} (o : Ok π X H) (ok0 : Kp π H0 H) (o0 : Ok π X H0) (k : Kp π H H') : ∀ {rs : List Rv} {vs : List V}, RAts π X H0 H rs vs → RAts π X H0 H' rs vs
  | [], [], _ => trivial
  | _ :: _, _ :: _, ⟨a, b⟩ => ⟨a.keep o ok0 o0 k, RAts.keep o ok0 o0 k b⟩
  | [], _ :: _, a => a.elim
  | _ :: _, [], a => a.elim
theorem RAts.base {π : Po} {X : Xs} {H0 H1 H : Hp} (o0 : Ok π X H0) (k : Kp π H0 H1) : ∀ {rs : List Rv} {vs : List V}, RAts π X H1 H rs vs → RAts π X H0 H rs vs
  | [], [], _ => trivial
  | _ :: _, _ :: _, ⟨a, b⟩ => ⟨a.base o0 k, RAts.base o0 k b⟩
  | [], _ :: _, a => a.elim
  | _ :: _, [], a => a.elim
theorem RAts.length {π : Po} {X : Xs} {H0 H : Hp} : ∀ {rs : List Rv} {vs : List V}, RAts π X H0 H rs vs → rs.length = vs.length
  | [], [], _ => rfl
  | _ :: _, _ :: _, ⟨_, b⟩ => congrArg (· + 1) b.length
  | [], _ :: _, a => a.elim
  | _ :: _, [], a => a.elim
def WpA (π : Po) (t : TA) (δ : List Rv) (k : List Rv → Prop) : Prop :=
  ∀ (X : Xs) (H : Hp) (σ : L2.St) (Q : List V → Hp → Prop), Ok π X H → Ev π X H σ δ → (∀ vs rs H', Kp π H H' → RAts π X H H' rs vs → k rs → Q vs H') → t σ H Q
/-- what is done with values that are there -/
def WOp (π : Po) (r : R2) (a b : Rv) (k : Rv → Prop) : Prop :=
  ∀ (X : Xs) (H0 H : Hp) (x y : V) (Q : VK), Ok π X H0 → Ok π X H → Kp π H0 H → RAt π X H0 H a x → RAt π X H0 H b y → (∀ v z H', Kp π H H' → RAt π X H0 H' z v → k z → Q v H') → r x y H Q
def WUn (π : Po) (r : V → Hp → VK → Prop) (a : Rv) (k : Rv → Prop) : Prop :=
  ∀ (X : Xs) (H0 H : Hp) (x : V) (Q : VK), Ok π X H0 → Ok π X H → Kp π H0 H → RAt π X H0 H a x → (∀ v z H', Kp π H H' → RAt π X H0 H' z v → k z → Q v H') → r x H Q
def WCb (π : Po) (r : List V → Hp → VK → Prop) (as : List Rv) (k : Rv → Prop) : Prop :=
  ∀ (X : Xs) (H0 H : Hp) (xs : List V) (Q : VK), Ok π X H0 → Ok π X H → Kp π H0 H → RAts π X H0 H as xs → (∀ v z H', Kp π H H' → RAt π X H0 H' z v → k z → Q v H') → r xs H Q
section
variable {π : Po} {δ : List Rv} {k : Rv → Prop} {ta tb te : TE} {r : R2} {t : TA}
theorem Wp.imp {k' : Rv → Prop} (h : Wp π te δ k') (i : ∀ r, k' r → k r) : Wp π te δ k := fun X H σ Q o e q => h X H σ Q o e fun v r H' kp a kr => q v r H' kp a (i r kr)
theorem WpT.imp {tt : TT} {k k' : Bool → Prop} (h : WpT π tt δ k') (i : ∀ r, k' r → k r) : WpT π tt δ k := fun X H σ Q o e q => h X H σ Q o e fun b H' kp kr => q b H' kp (i b kr)
theorem w_var {n : Nat} {r : Rv} (h : δ[n]? = some r) (hn : r ≠ .un) (q : k r) : Wp π (tVar n) δ k := fun X H σ Q o e h' => by
  obtain ⟨v, e1, e2⟩ := e.get h hn
  exact ⟨v, e1, h' v r H o.kp e2 q⟩
theorem w_int {i : Int} (q : k (.d (.int i))) : Wp π (tC (.int i)) δ k := fun X H σ Q o e h => h (.int i) (.d (.int i)) H o.kp (At.int i) q
theorem w_str {s : Str} (q : k (.d (.str s))) : Wp π (tC (.str s)) δ k := fun X H σ Q o e h => h (.str s) (.d (.str s)) H o.kp (At.str s) q
theorem w_bl {b : Bool} (q : k (.d (.bl b))) : Wp π (tC (.bl b)) δ k := fun X H σ Q o e h => h (.bl b) (.d (.bl b)) H o.kp (At.bl b) q
theorem w_non (q : k (.d .non)) : Wp π (tC .non) δ k := fun X H σ Q o e h => h .non (.d .non) H o.kp At.non q
theorem w_ty {n : String} (q : k (.raw (.ty n))) : Wp π (tC (.ty n)) δ k := fun X H σ Q o e h => h (.ty n) (.raw (.ty n)) H o.kp rfl q
theorem w_ref {p : Addr} (q : k (.raw (.ref p))) : Wp π (tC (.ref p)) δ k := fun X H σ Q o e h => h (.ref p) (.raw (.ref p)) H o.kp rfl q
theorem w_op (q : Wp π ta δ fun a => Wp π tb δ fun b => WOp π r a b k) : Wp π (tOp r ta tb) δ k := fun X H σ Q o e h => by
  refine q X H σ _ o e fun x a H1 k1 r1 wb => ?_
  have o1 := o.keep k1
  refine wb X H1 σ _ o1 (e.keep o k1) fun y b H2 k2 r2 w => ?_
  have k02 := k1.trans k2
  exact w X H H2 x y Q o (o1.keep k2) k02 (r1.keep o1 k1 o k2) (r2.base o k1) fun v z H3 k3 r3 kz => h v z H3 (k02.trans k3) r3 kz
theorem w_un {r : V → Hp → VK → Prop} (q : Wp π ta δ fun a => WUn π r a k) : Wp π (tUn r ta) δ k := fun X H σ Q o e h => by
  refine q X H σ _ o e fun x a H1 k1 r1 w => ?_
  exact w X H H1 x Q o (o.keep k1) k1 r1 fun v z H3 k3 r3 kz => h v z H3 (k1.trans k3) r3 kz
theorem wa_nil {k : List Rv → Prop} (q : k []) : WpA π tNil δ k := fun X H σ Q o e h => h [] [] H o.kp trivial q
theorem wa_cons {k : List Rv → Prop} (q : Wp π ta δ fun a => WpA π t δ fun rs => k (a :: rs)) : WpA π (tCons ta t) δ k := fun X H σ Q o e h => by
  refine q X H σ _ o e fun x a H1 k1 r1 w => ?_
  have o1 := o.keep k1
  refine w X H1 σ _ o1 (e.keep o k1) fun vs rs H2 k2 r2 kr => ?_
  exact h (x :: vs) (a :: rs) H2 (k1.trans k2) ⟨r1.keep o1 k1 o k2, r2.base o k1⟩ kr
theorem w_cb {r : List V → Hp → VK → Prop} (q : WpA π t δ fun as => WCb π r as k) : Wp π (tCB r t) δ k := fun X H σ Q o e h => by
  refine q X H σ _ o e fun vs rs H1 k1 r1 w => ?_
  exact w X H H1 vs Q o (o.keep k1) k1 r1 fun v z H3 k3 r3 kz => h v z H3 (k1.trans k3) r3 kz
theorem w_call {sp : Sp} {E : XK} (q : WpA π t δ fun as => WCb π (fun vs H Q => sp vs H Q E) as k) : Wp π (tCall sp [] E t) δ k := fun X H σ Q o e h => by
  refine i_call ?_
  exact w_cb (r := fun vs H Q => sp vs H Q E) q X H σ Q o e h
/-- tests -/
theorem wt_tb {k : Bool → Prop} (q : Wp π te δ fun r => ∃ b, r = .d (.bl b) ∧ k b) : WpT π (tB te) δ k := fun X H σ Q o e h => by
  refine q X H σ _ o e fun v r H1 k1 a w => ?_
  obtain ⟨b, rfl, kb⟩ := w
  cases a
  exact ⟨b, rfl, h b H1 k1 kb⟩
theorem wt_test {k : Bool → Prop} (q : Wp π te δ fun r => ∃ b, r = .d (.bl b) ∧ k b) : WpT π (tTest te) δ k := wt_tb q
theorem wt_and {k : Bool → Prop} {t u : TT} (q : WpT π t δ fun c => if c = true then WpT π u δ k else k false) : WpT π (tAnd t u) δ k := fun X H σ Q o e h => by
  refine q X H σ _ o e fun c H1 k1 w => ?_
  dsimp only at w
  split at w
  · rw [if_pos ‹_›]
    exact w X H1 σ Q (o.keep k1) (e.keep o k1) fun b H2 k2 kb => h b H2 (k1.trans k2) kb
  · rw [if_neg ‹_›]
    exact h false H1 k1 w
theorem wt_or {k : Bool → Prop} {t u : TT} (q : WpT π t δ fun c => if c = true then k true else WpT π u δ k) : WpT π (tOr t u) δ k := fun X H σ Q o e h => by
  refine q X H σ _ o e fun c H1 k1 w => ?_
  dsimp only at w
  split at w
  · rw [if_pos ‹_›]
    exact h true H1 k1 w
  · rw [if_neg ‹_›]
    exact w X H1 σ Q (o.keep k1) (e.keep o k1) fun b H2 k2 kb => h b H2 (k1.trans k2) kb
theorem wt_not {k : Bool → Prop} {t : TT} (q : WpT π t δ fun c => k (!c)) : WpT π (tNot t) δ k := fun X H σ Q o e h => by
  exact q X H σ _ o e fun c H1 k1 w => h _ H1 k1 w
theorem w_andV (q : Wp π ta δ fun r => ∃ c, r = .d (.bl c) ∧ if c = true then Wp π tb δ k else k (.d (.bl false))) : Wp π (tAndV ta tb) δ k := fun X H σ Q o e h => by
  refine q X H σ _ o e fun v r H1 k1 a w => ?_
  obtain ⟨c, rfl, w⟩ := w
  cases a
  refine ⟨c, rfl, ?_⟩
  split at w
  · rw [if_pos ‹_›]
    exact w X H1 σ Q (o.keep k1) (e.keep o k1) fun v r H2 k2 a kb => h v r H2 (k1.trans k2) (a.base o k1) kb
  · rw [if_neg ‹_›]
    exact h (.bl false) (.d (.bl false)) H1 k1 (At.bl false) w
theorem w_orV (q : Wp π ta δ fun r => ∃ c, r = .d (.bl c) ∧ if c = true then k (.d (.bl true)) else Wp π tb δ k) : Wp π (tOrV ta tb) δ k := fun X H σ Q o e h => by
  refine q X H σ _ o e fun v r H1 k1 a w => ?_
  obtain ⟨c, rfl, w⟩ := w
  cases a
  refine ⟨c, rfl, ?_⟩
  split at w
  · rw [if_pos ‹_›]
    exact h (.bl true) (.d (.bl true)) H1 k1 (At.bl true) w
  · rw [if_neg ‹_›]
    exact w X H1 σ Q (o.keep k1) (e.keep o k1) fun v r H2 k2 a kb => h v r H2 (k1.trans k2) (a.base o k1) kb
theorem w_notV (q : Wp π ta δ fun r => ∃ c, r = .d (.bl c) ∧ k (.d (.bl (!c)))) : Wp π (tNotV ta) δ k := fun X H σ Q o e h => by
  refine q X H σ _ o e fun v r H1 k1 a w => ?_
  obtain ⟨c, rfl, w⟩ := w
  cases a
  exact ⟨c, rfl, h (.bl (!c)) (.d (.bl (!c))) H1 k1 (At.bl _) w⟩
theorem w_if {tt : TT} (q : WpT π tt δ fun c => if c = true then Wp π ta δ k else Wp π tb δ k) : Wp π (tIf tt ta tb) δ k := fun X H σ Q o e h => by
  refine q X H σ _ o e fun c H1 k1 w => ?_
  dsimp only at w
  split at w
  · rw [if_pos ‹_›]
    exact w X H1 σ Q (o.keep k1) (e.keep o k1) fun v r H2 k2 a kb => h v r H2 (k1.trans k2) (a.base o k1) kb
  · rw [if_neg ‹_›]
    exact w X H1 σ Q (o.keep k1) (e.keep o k1) fun v r H2 k2 a kb => h v r H2 (k1.trans k2) (a.base o k1) kb
end
end Dt
namespace Dt
open PySem PySem.Spec PyProof.Rows L2 Ly
def Rv.li : Rv → Option (List D)
  | .d (.lst ds) => some ds
  | .own _ (.lst ds) => some ds
  | .new (.lst ds) => some ds
  | _ => none
def Rv.kd : Rv → Option (List (Key × D))
  | .d (.dct ds) => some ds
  | .own _ (.dct ds) => some ds
  | .new (.dct ds) => some ds
  | _ => none
def Rv.fz : Rv → Option D
  | .d x => some x
  | .new x => some x
  | _ => none
def fzs : List Rv → Option (List D)
  | [] => some []
  | r :: rs => match r.fz, fzs rs with
    | some x, some xs => some (x :: xs)
    | _, _ => none
theorem plus_sub {X : Xs} {H : Hp} {p : Addr} : Mo (cut (plus X p) H) (cut X H) := cut_less fun _ x => .inl x
theorem RAt.li {π : Po} {X : Xs} {H0 H : Hp} {r : Rv} {v : V} {ds : List D} (a : RAt π X H0 H r v) (h : r.li = some ds) : ∃ p vs, v = .ref p ∧ H p = some (.lst vs) ∧ Ats (cut X H) vs ds := by
  cases r with
  | d x =>
    cases x with
    | lst es => cases h; cases a with | lst e t => exact ⟨_, _, rfl, (of_cut e).2, t⟩
    | _ => cases h
  | own p x =>
    cases x with
    | lst es => cases h; obtain ⟨e, _, _, vs, e2, t⟩ := a; exact ⟨p, vs, e, e2, t⟩
    | _ => cases h
  | new x =>
    cases x with
    | lst es => cases h; obtain ⟨p, e, _, vs, e2, t⟩ := a; exact ⟨p, vs, e, e2, t.mono plus_sub⟩
    | _ => cases h
  | _ => cases h
theorem rd_cut {X : Xs} {H : Hp} {p : Addr} {o : HO} (h : Rd (cut X H) p o) : Rd H p o := h.elim (fun h => .inl (of_cut h).2) fun ⟨w, h⟩ => .inr ⟨w, (of_cut h).2⟩
theorem RAt.kd {π : Po} {X : Xs} {H0 H : Hp} {r : Rv} {v : V} {ds : List (Key × D)} (a : RAt π X H0 H r v) (h : r.kd = some ds) : ∃ p kv, v = .ref p ∧ Rd H p (.dK kv) ∧ kv.map (·.1) = ds.map (·.1) ∧ Ats (cut X H) (kv.map (·.2)) (ds.map (·.2)) := by
  cases r with
  | d x =>
    cases x with
    | dct es => cases h; cases a with | dct e e2 t => exact ⟨_, _, rfl, rd_cut e, e2, t⟩
    | _ => cases h
  | own p x =>
    cases x with
    | dct es => cases h; obtain ⟨e, _, _, vs, e2, e3, t⟩ := a; exact ⟨p, vs, e, .inl e2, e3, t⟩
    | _ => cases h
  | new x =>
    cases x with
    | dct es => cases h; obtain ⟨p, e, _, vs, e2, e3, t⟩ := a; exact ⟨p, vs, e, .inl e2, e3, t.mono plus_sub⟩
    | _ => cases h
  | _ => cases h
theorem RAt.fz {π : Po} {X : Xs} {H0 H : Hp} {r : Rv} {v : V} {x : D} (o0 : Ok π X H0) (a : RAt π X H0 H r v) (h : r.fz = some x) : At (cut X H) v x := by
  cases r with
  | d y => cases h; exact a
  | new y =>
    cases h
    obtain ⟨p, e, n, t⟩ := a
    have np : ¬ X p := fun z => o0.dom p z n
    subst e
    cases x with
    | lst ds => obtain ⟨vs, e, t⟩ := t; exact .lst (cut_of np e) (t.mono plus_sub)
    | dct kd => obtain ⟨kv, e, e2, t⟩ := t; exact .dct (.inl (cut_of np e)) e2 (t.mono plus_sub)
    | dcT kd => obtain ⟨kv, e, e2, t⟩ := t; exact .dcT (.inl (cut_of np e)) e2 (t.mono plus_sub)
    | obj C fd => obtain ⟨dx, fs, e, e2, t⟩ := t; exact .obj (cut_of np e) e2 (t.mono plus_sub)
    | _ => exact t.elim
  | _ => cases h
theorem RAts.fzs {π : Po} {X : Xs} {H0 H : Hp} (o0 : Ok π X H0) : ∀ {rs : List Rv} {vs : List V} {ds : List D}, RAts π X H0 H rs vs → fzs rs = some ds → Ats (cut X H) vs ds
  | [], [], _, _, h => by cases h; exact .nil
  | r :: rs, v :: vs, ds, ⟨a, b⟩, h => by
    unfold Dt.fzs at h
    cases h1 : r.fz with
    | none => rw [h1] at h; cases h
    | some x =>
      cases h2 : Dt.fzs rs with
      | none => rw [h1, h2] at h; cases h
      | some xs =>
        rw [h1, h2] at h
        cases h
        exact .cons (a.fz o0 h1) (b.fzs o0 h2)
  | [], _ :: _, _, a, _ => a.elim
  | _ :: _, [], _, a, _ => a.elim
/-- a new object, many may hold it -/
theorem new_at {π : Po} {X : Xs} {H0 H : Hp} {p : Addr} {x : D} {o : HO} (ok : Ok π X H) (h : H p = none) (a : AtO (plus X p) (L2.upd H p o) p x) (k : Kp π H0 H) (o0 : Ok π X H0) : RAt π X H0 (L2.upd H p o) (.new x) (.ref p) := ⟨p, rfl, k.free o0 h, a⟩
theorem up_mo {X : Xs} {H : Hp} {p : Addr} {o : HO} (h : H p = none) : Mo (cut X H) (cut (plus X p) (L2.upd H p o)) :=
  cut_keep (fun a u _ e => by rw [upd_ne (ne_of_none e h)]; exact e) fun a u n e z => z.elim n (ne_of_none e h)
theorem up_mo' {X : Xs} {H : Hp} {p : Addr} {o : HO} (h : H p = none) : Mo (cut X H) (cut X (L2.upd H p o)) :=
  cut_keep (fun a u _ e => by rw [upd_ne (ne_of_none e h)]; exact e) fun a u n e => n
theorem le_line {n : Nat} (h : n ≤ 4000) : n ≤ sizeLine := Nat.le_trans h (by decide)
section
variable {π : Po} {δ : List Rv} {k : Rv → Prop} {ta tb te : TE} {t : TA} {K : PySem.W.Frag}
theorem w_tup (q : WpA π t δ fun rs => ∃ ds, fzs rs = some ds ∧ ds.length ≤ 4000 ∧ k (.d (.tup ds))) : Wp π (tTup t) δ k := fun X H σ Q o e h => by
  refine q X H σ _ o e fun vs rs H1 k1 a w => ?_
  obtain ⟨ds, hf, hl, kd⟩ := w
  have at_ := a.fzs o hf
  refine ⟨by rw [at_.length]; exact le_line hl, fun p hp => ?_⟩
  have np : ¬ X p := fun z => (o.keep k1).dom p z hp
  refine h (.ref p) (.d (.tup ds)) _ (k1.trans ((o.keep k1).kp.add (o.keep k1) hp)) ?_ kd
  exact At.tup (cut_of np upd_same) (at_.mono (up_mo' hp))
theorem w_lst (q : WpA π t δ fun rs => ∃ ds, fzs rs = some ds ∧ ds.length ≤ 4000 ∧ k (.new (.lst ds))) : Wp π (tLst t) δ k := fun X H σ Q o e h => by
  refine q X H σ _ o e fun vs rs H1 k1 a w => ?_
  obtain ⟨ds, hf, hl, kd⟩ := w
  have at_ := a.fzs o hf
  refine ⟨by rw [at_.length]; exact le_line hl, fun p hp => ?_⟩
  refine h (.ref p) (.new (.lst ds)) _ (k1.trans ((o.keep k1).kp.add (o.keep k1) hp)) ?_ kd
  exact new_at (o.keep k1) hp ⟨vs, upd_same, at_.mono (up_mo hp)⟩ k1 o
theorem wop_ixL {a : Rv} {ds : List D} {i : Int} {d : D} (hl : a.li = some ds) (ha : atI ds i = some d) (q : k (.d d)) : WOp π (rIx K) a (.d (.int i)) k := fun X H0 H x y Q o0 o k0 ra rb h => by
  obtain ⟨p, vs, rfl, e, t⟩ := ra.li hl
  cases rb
  obtain ⟨j, hj, hd⟩ : ∃ j, ixN ds.length i = some j ∧ ds[j]? = some d := by
    unfold atI at ha
    cases hj : ixN ds.length i with
    | none => rw [hj] at ha; cases ha
    | some j => rw [hj] at ha; exact ⟨j, rfl, ha⟩
  obtain ⟨v, hv, av⟩ := t.get hd
  refine i_ix_l e (v := v) ?_ (h v (.d d) H o.kp av q)
  unfold atI
  rw [t.length, hj]
  exact hv
theorem wop_ixT {ds : List D} {i : Int} {d : D} (ha : atI ds i = some d) (q : k (.d d)) : WOp π (rIx K) (.d (.tup ds)) (.d (.int i)) k := fun X H0 H x y Q o0 o k0 ra rb h => by
  cases ra with
  | tup e t =>
    cases rb
    obtain ⟨j, hj, hd⟩ : ∃ j, ixN ds.length i = some j ∧ ds[j]? = some d := by
      unfold atI at ha
      cases hj : ixN ds.length i with
      | none => rw [hj] at ha; cases ha
      | some j => rw [hj] at ha; exact ⟨j, rfl, ha⟩
    obtain ⟨v, hv, av⟩ := t.get hd
    refine i_ix_t (of_cut e).2 (v := v) ?_ (h v (.d d) H o.kp av q)
    unfold atI
    rw [t.length, hj]
    exact hv
theorem wcb_lenL {a : Rv} {ds : List D} (hl : a.li = some ds) (q : k (.d (.int ds.length))) : WCb π (Ly.rLen K) [a] k := fun X H0 H xs Q o0 o k0 ra h => by
  match xs, ra with
  | [x], ⟨ra, _⟩ =>
    obtain ⟨p, vs, rfl, e, t⟩ := ra.li hl
    refine i_len_l e ?_
    rw [t.length]
    exact h _ (.d (.int ds.length)) H o.kp (At.int _) q
theorem wcb_lenT {ds : List D} (q : k (.d (.int ds.length))) : WCb π (Ly.rLen K) [.d (.tup ds)] k := fun X H0 H xs Q o0 o k0 ra h => by
  match xs, ra with
  | [x], ⟨ra, _⟩ =>
    cases ra with
    | tup e t =>
      refine i_len_t (of_cut e).2 ?_
      rw [t.length]
      exact h _ (.d (.int ds.length)) H o.kp (At.int _) q
theorem wcb_lenS {s : Str} (hs : s.length ≤ sizeLine) (q : k (.d (.int s.length))) : WCb π (Ly.rLen K) [.d (.str s)] k := fun X H0 H xs Q o0 o k0 ra h => by
  match xs, ra with
  | [x], ⟨ra, _⟩ =>
    cases ra
    exact i_len_s hs (h _ (.d (.int s.length)) H o.kp (At.int _) q)
theorem wop_addI {i j : Int} (q : k (.d (.int (i + j)))) : WOp π rAddU (.d (.int i)) (.d (.int j)) k := fun X H0 H x y Q o0 o k0 ra rb h => by
  cases ra; cases rb
  exact i_add_i (h _ (.d (.int (i + j))) H o.kp (At.int _) q)
theorem wop_subI {i j : Int} (q : k (.d (.int (i - j)))) : WOp π rSubU (.d (.int i)) (.d (.int j)) k := fun X H0 H x y Q o0 o k0 ra rb h => by
  cases ra; cases rb
  exact i_sub_i (h _ (.d (.int (i - j))) H o.kp (At.int _) q)
theorem wop_mulI {i j : Int} (c : CMulW i j) (q : k (.d (.int (i * j)))) : WOp π rMulU (.d (.int i)) (.d (.int j)) k := fun X H0 H x y Q o0 o k0 ra rb h => by
  cases ra; cases rb
  exact i_mul_i c (h _ (.d (.int (i * j))) H o.kp (At.int _) q)
theorem wop_fdI {i j : Int} (c : CDivW i j) (q : k (.d (.int (i / j)))) : WOp π rFdU (.d (.int i)) (.d (.int j)) k := fun X H0 H x y Q o0 o k0 ra rb h => by
  cases ra; cases rb
  exact i_fd_i c (h _ (.d (.int (i / j))) H o.kp (At.int _) q)
theorem wop_mdI {i j : Int} (c : 0 < j) (q : k (.d (.int (i % j)))) : WOp π rMdU (.d (.int i)) (.d (.int j)) k := fun X H0 H x y Q o0 o k0 ra rb h => by
  cases ra; cases rb
  exact i_md_i c (h _ (.d (.int (i % j))) H o.kp (At.int _) q)
theorem wop_I0 {i j : Int} {g : Int → Int → V} {b : Bool} (e : g i j = .bl b) (q : k (.d (.bl b))) : WOp π (rI0 g) (.d (.int i)) (.d (.int j)) k := fun X H0 H x y Q o0 o k0 ra rb h => by
  cases ra; cases rb
  refine i_I0 ?_
  rw [e]
  exact h _ (.d (.bl b)) H o.kp (At.bl b) q
end
end Dt
namespace Dt
open PySem PySem.Spec PyProof.Rows L2 Ly
/-- locked dicts: as they stand, as they stood -/
abbrev Lk := Addr → Option (HO × HO)
def undo (L : Lk) (H : Hp) : Hp := fun a => match L a with
  | some x => some x.2
  | none => H a
structure Iv (π : Po) (H0 : Hp) (X0 : Xs) (L : Lk) (X : Xs) (H : Hp) : Prop where
  ok : Ok π X H
  ok0 : Ok π X0 H0
  kp : Kp π H0 (undo L H)
  sub : ∀ p, X0 p → X p
  lk : ∀ a x, L a = some x → H a = some x.1 ∧ ¬ X a
  old : ∀ a, H0 a ≠ none → H a ≠ none
/-- what this body's own names hold is its own -/
def Own0 (H0 : Hp) (X0 : Xs) (δ : List Rv) : Prop := ∀ (i : Nat) (r : Rv) (p : Addr), δ[i]? = some r → adr r = some p → H0 p = none ∧ ¬ X0 p
/-- from one place of a body to a later one -/
structure Fr (X : Xs) (H : Hp) (X' : Xs) (H' : Hp) : Prop where
  mo : Mo (cut X H) (cut X' H')
  old : ∀ a, H a ≠ none → H' a ≠ none
theorem Fr.refl (X : Xs) (H : Hp) : Fr X H X H := ⟨Mo.refl _, fun _ x => x⟩
theorem Fr.trans {X X1 X2 : Xs} {H H1 H2 : Hp} (a : Fr X H X1 H1) (b : Fr X1 H1 X2 H2) : Fr X H X2 H2 := ⟨a.mo.trans b.mo, fun p x => b.old p (a.old p x)⟩
theorem Ok.fr {π : Po} {X : Xs} {H H' : Hp} (o : Ok π X H) (k : Kp π H H') : Fr X H X H' := ⟨o.mo k, fun a h e => h (k.free o e)⟩
structure Ke where
  nx : List Rv → Prop
  rt : Rv → Prop
  bk : List Rv → Prop := fun _ => False
  ct : List Rv → Prop := fun _ => False
/-- the ends, over data -/
structure EndsOk (π : Po) (H0 : Hp) (X0 : Xs) (L : Lk) (X : Xs) (H : Hp) (k : Ke) (D : Ends) : Prop where
  nx : ∀ X' H' σ δ, Iv π H0 X0 L X' H' → Ev π X' H' σ δ → Own0 H0 X0 δ → Fr X H X' H' → k.nx δ → D.nx σ H'
  bk : ∀ X' H' σ δ, Iv π H0 X0 L X' H' → Ev π X' H' σ δ → Own0 H0 X0 δ → Fr X H X' H' → k.bk δ → D.bk σ H'
  ct : ∀ X' H' σ δ, Iv π H0 X0 L X' H' → Ev π X' H' σ δ → Own0 H0 X0 δ → Fr X H X' H' → k.ct δ → D.ct σ H'
  rt : ∀ X' H' v r, Iv π H0 X0 L X' H' → Fr X H X' H' → (∀ p x, r ≠ .own p x) → RAt π X0 H0 H' r v → k.rt r → D.rt v H'
theorem EndsOk.fr {π : Po} {H0 : Hp} {X0 : Xs} {L : Lk} {X X1 : Xs} {H H1 : Hp} {k : Ke} {D : Ends} (f : Fr X H X1 H1) (e : EndsOk π H0 X0 L X H k D) : EndsOk π H0 X0 L X1 H1 k D :=
  ⟨fun X' H' σ δ i v o g => e.nx X' H' σ δ i v o (f.trans g), fun X' H' σ δ i v o g => e.bk X' H' σ δ i v o (f.trans g), fun X' H' σ δ i v o g => e.ct X' H' σ δ i v o (f.trans g), fun X' H' v r i g => e.rt X' H' v r i (f.trans g)⟩
def Ws (π : Po) (t : TS) (k : Ke) (δ : List Rv) : Prop :=
  ∀ (H0 : Hp) (X0 : Xs) (L : Lk) (X : Xs) (H : Hp) (σ : L2.St) (D : Ends), Iv π H0 X0 L X H → Ev π X H σ δ → Own0 H0 X0 δ → EndsOk π H0 X0 L X H k D → t D σ H
section
variable {π : Po} {δ : List Rv} {k : Ke} {te : TE} {t u : TS}
theorem undo_kp {π : Po} {X : Xs} {H H' : Hp} {L : Lk} {H0 : Hp} (o : Ok π X H) (hl : ∀ a x, L a = some x → ¬ X a) (k0 : Kp π H0 (undo L H)) (k : Kp π H H') : Kp π H0 (undo L H') :=
  ⟨fun a u n e => by
    have z := k0.keep a u n e
    unfold undo at z ⊢
    cases hL : L a with
    | none => rw [hL] at z; exact k.keep a u n z
    | some w => rw [hL] at z; exact z, fun q e => by
    obtain ⟨a, b, h, g⟩ := k.pot q e
    refine ⟨a, b, ?_, g⟩
    unfold undo
    cases hL : L q with
    | none => exact h
    | some w => exact absurd (o.pot q e).1 (hl q w hL)⟩
theorem Iv.keep {H0 : Hp} {X0 : Xs} {L : Lk} {X : Xs} {H H' : Hp} (i : Iv π H0 X0 L X H) (k : Kp π H H') : Iv π H0 X0 L X H' :=
  ⟨i.ok.keep k, i.ok0, undo_kp i.ok (fun a u e => (i.lk a u e).2) i.kp k, i.sub, fun a u e => by
    obtain ⟨h, n⟩ := i.lk a u e
    exact ⟨k.keep a _ (fun z => n (i.ok.pot a z).1) h, n⟩, fun a h e => i.old a h (k.free i.ok e)⟩
theorem ws_seq (q : Ws π t { k with nx := fun δ' => Ws π u k δ' } δ) : Ws π (tSeq t u) k δ := fun H0 X0 L X H σ D iv ev ow en => by
  refine q H0 X0 L X H σ _ iv ev ow ⟨fun X' H' σ' δ' iv' ev' ow' f w => ?_, en.bk, en.ct, en.rt⟩
  exact w H0 X0 L X' H' σ' D iv' ev' ow' (en.fr f)
theorem ws_next (q : k.nx δ) : Ws π tNext k δ := fun H0 X0 L X H σ D iv ev ow en => en.nx X H σ δ iv ev ow (Fr.refl X H) q
theorem ws_drop (q : Wp π te δ fun _ => k.nx δ) : Ws π (tDrop te) k δ := fun H0 X0 L X H σ D iv ev ow en => by
  exact q X H σ _ iv.ok ev fun v r H1 k1 a w => en.nx X H1 σ δ (iv.keep k1) (ev.keep iv.ok k1) ow (iv.ok.fr k1) w
theorem ws_if {c : TT} (q : WpT π c δ fun b => if b = true then Ws π t k δ else Ws π u k δ) : Ws π (tIfS c t u) k δ := fun H0 X0 L X H σ D iv ev ow en => by
  refine q X H σ _ iv.ok ev fun b H1 k1 w => ?_
  dsimp only at w
  split at w
  · rw [if_pos ‹_›]
    exact w H0 X0 L X H1 σ D (iv.keep k1) (ev.keep iv.ok k1) ow (en.fr (iv.ok.fr k1))
  · rw [if_neg ‹_›]
    exact w H0 X0 L X H1 σ D (iv.keep k1) (ev.keep iv.ok k1) ow (en.fr (iv.ok.fr k1))
theorem AtO.less {X X' : Xs} {H : Hp} {p : Addr} {x : D} (m : Mo (cut X H) (cut X' H)) (a : AtO X H p x) : AtO X' H p x := by
  cases x with
  | lst ds => obtain ⟨vs, e, t⟩ := a; exact ⟨vs, e, t.mono m⟩
  | dct kd => obtain ⟨kv, e, e2, t⟩ := a; exact ⟨kv, e, e2, t.mono m⟩
  | dcT kd => obtain ⟨kv, e, e2, t⟩ := a; exact ⟨kv, e, e2, t.mono m⟩
  | obj C fd => obtain ⟨dx, fs, e, e2, t⟩ := a; exact ⟨dx, fs, e, e2, t.mono m⟩
  | _ => exact a
end
end Dt
namespace Dt
open PySem PySem.Spec PyProof.Rows L2 Ly
theorem set_get {α : Type} {xs : List α} {i j : Nat} {x y : α} (h : (xs.set i x)[j]? = some y) : (j = i ∧ y = x) ∨ (j ≠ i ∧ xs[j]? = some y) := by
  by_cases e : j = i
  · subst e
    rw [List.getElem?_set] at h
    simp at h
    exact .inl ⟨rfl, h.2.symm⟩
  · rw [List.getElem?_set_ne (fun z => e z.symm)] at h
    exact .inr ⟨e, h⟩
theorem Ev.put {π : Po} {X X' : Xs} {H H' : Hp} {σ : L2.St} {δ : List Rv} {i : Nat} {r : Rv} {v : V} (e : Ev π X H σ δ) (hk : ∀ r o, SAt π X H r o → SAt π X' H' r o) (hr : SAt π X' H' r (some v))
    (hn : ∀ p, adr r = some p → ∀ j s, j ≠ i → δ[j]? = some s → adr s ≠ some p) : Ev π X' H' (σ.set i (some v)) (δ.set i r) := by
  refine ⟨by rw [List.length_set, List.length_set]; exact e.len, fun j s o h1 h2 => ?_, fun j l s t p h1 h2 a1 a2 => ?_⟩
  · rcases set_get h1 with ⟨rfl, rfl⟩ | ⟨n, h1⟩
    · rcases set_get h2 with ⟨_, rfl⟩ | ⟨n, _⟩
      · exact hr
      · exact absurd rfl n
    · rcases set_get h2 with ⟨e', _⟩ | ⟨_, h2⟩
      · exact absurd e' n
      · exact hk _ _ (e.at_ j s o h1 h2)
  · rcases set_get h1 with ⟨e1, e2⟩ | ⟨n1, g1⟩
    · rcases set_get h2 with ⟨e3, e4⟩ | ⟨n2, g2⟩
      · exact e1.trans e3.symm
      · rw [e2] at a1
        exact absurd a2 (hn p a1 l t n2 g2)
    · rcases set_get h2 with ⟨e3, e4⟩ | ⟨n2, g2⟩
      · rw [e4] at a2
        exact absurd a1 (hn p a2 j s n1 g1)
      · exact e.nd j l s t p g1 g2 a1 a2
theorem Own0.put {H0 : Hp} {X0 : Xs} {δ : List Rv} {i : Nat} {r : Rv} (o : Own0 H0 X0 δ) (h : ∀ p, adr r = some p → H0 p = none ∧ ¬ X0 p) : Own0 H0 X0 (δ.set i r) := fun j s p h1 a1 => by
  rcases set_get h1 with ⟨rfl, rfl⟩ | ⟨n, h1⟩
  · exact h p a1
  · exact o j s p h1 a1
/-- what was told at an earlier heap, with a new thing set apart -/
theorem SAt.part {π : Po} {X : Xs} {H H' : Hp} {r : Rv} {o : Option V} {p : Addr} (ok : Ok π X H) (k : Kp π H H') (n : H p = none) (a : SAt π X H r o) : SAt π (plus X p) H' r o := by
  have m : Mo (cut X H) (cut (plus X p) H') := cut_keep (fun a u x e => k.keep a u (fun z => x (ok.pot a z).1) e) fun a u x e z => z.elim x (ne_of_none e n)
  have keepO : ∀ q x, X q → π ≠ some q → AtO X H q x → AtO (plus X p) H' q x := fun q x xq nq t => by
    cases x with
    | lst ds => obtain ⟨vs, e, t⟩ := t; exact ⟨vs, k.keep q _ nq e, t.mono m⟩
    | dct kd => obtain ⟨kv, e, e2, t⟩ := t; exact ⟨kv, k.keep q _ nq e, e2, t.mono m⟩
    | dcT kd => obtain ⟨kv, e, e2, t⟩ := t; exact ⟨kv, k.keep q _ nq e, e2, t.mono m⟩
    | obj C fd => obtain ⟨dx, fs, e, e2, t⟩ := t; exact ⟨dx, fs, k.keep q _ nq e, e2, t.mono m⟩
    | _ => exact t
  cases r with
  | un => trivial
  | d x => obtain ⟨v, e, a⟩ := a; exact ⟨v, e, a.mono m⟩
  | own q x =>
    obtain ⟨v, e, e2, xq, nq, t⟩ := a
    exact ⟨v, e, e2, .inl xq, nq, keepO q x xq nq t⟩
  | new x =>
    obtain ⟨v, e, q, e2, nq, t⟩ := a
    cases x with
    | lst ds => obtain ⟨vs, e, _⟩ := t; rw [nq] at e; cases e
    | dct ds => obtain ⟨vs, e, _⟩ := t; rw [nq] at e; cases e
    | dcT ds => obtain ⟨vs, e, _⟩ := t; rw [nq] at e; cases e
    | obj C ds => obtain ⟨dx, vs, e, _⟩ := t; rw [nq] at e; cases e
    | _ => exact t.elim
  | pot => exact a
  | raw w => exact a
theorem AtO.some {X : Xs} {H : Hp} {p : Addr} {x : D} (a : AtO X H p x) : H p ≠ none := by
  cases x with
  | lst ds => obtain ⟨vs, e, _⟩ := a; rw [e]; exact fun z => by cases z
  | dct kd => obtain ⟨kv, e, _⟩ := a; rw [e]; exact fun z => by cases z
  | dcT kd => obtain ⟨kv, e, _⟩ := a; rw [e]; exact fun z => by cases z
  | obj C fd => obtain ⟨dx, fs, e, _⟩ := a; rw [e]; exact fun z => by cases z
  | _ => exact a.elim
/-- a value is put into names -/
def Wg (π : Po) (g : TG) (r : Rv) (δ : List Rv) (kn : List Rv → Prop) : Prop :=
  ∀ (H0 : Hp) (X0 : Xs) (L : Lk) (X : Xs) (Hs H : Hp) (σ : L2.St) (v : V) (Q : L2.St → Hp → Prop), Iv π H0 X0 L X Hs → Ev π X Hs σ δ → Own0 H0 X0 δ → Kp π Hs H → RAt π X Hs H r v →
    (∀ X' H' σ' δ', Iv π H0 X0 L X' H' → Ev π X' H' σ' δ' → Own0 H0 X0 δ' → Fr X Hs X' H' → kn δ' → Q σ' H') → g v σ H Q
/-- data is put into names: nothing else changes -/
def WgE (π : Po) (g : TG) (x : D) (δ : List Rv) (kn : List Rv → Prop) : Prop :=
  ∀ (X : Xs) (H : Hp) (σ : L2.St) (v : V) (Q : L2.St → Hp → Prop), Ok π X H → Ev π X H σ δ → At (cut X H) v x → (∀ σ' δ', Ev π X H σ' δ' → (∀ (i : Nat) (r : Rv) (p : Addr), δ'[i]? = some r → adr r = some p → δ[i]? = some r) → kn δ' → Q σ' H) → g v σ H Q
def WgsE (π : Po) (g : TGs) (xs : List D) (δ : List Rv) (kn : List Rv → Prop) : Prop :=
  ∀ (X : Xs) (H : Hp) (σ : L2.St) (vs : List V) (Q : L2.St → Hp → Prop), Ok π X H → Ev π X H σ δ → Ats (cut X H) vs xs → (∀ σ' δ', Ev π X H σ' δ' → (∀ (i : Nat) (r : Rv) (p : Addr), δ'[i]? = some r → adr r = some p → δ[i]? = some r) → kn δ' → Q σ' H) → g vs σ H Q
section
variable {π : Po} {δ : List Rv} {k : Ke} {te : TE} {t u : TS} {g : TG} {kn : List Rv → Prop} {i : Nat}
theorem wg_d {x : D} (q : kn (δ.set i (.d x))) : Wg π (gName i) (.d x) δ kn := fun H0 X0 L X Hs H σ v Q iv ev ow k1 a h => by
  refine h X H (σ.set i (some v)) (δ.set i (.d x)) (iv.keep k1) ?_ ?_ (iv.ok.fr k1) q
  · exact ev.put (fun r o s => s.keep iv.ok k1) ⟨v, rfl, a⟩ fun p e => by cases e
  · exact ow.put fun p e => by cases e
theorem wg_raw {w : V} (q : kn (δ.set i (.raw w))) : Wg π (gName i) (.raw w) δ kn := fun H0 X0 L X Hs H σ v Q iv ev ow k1 a h => by
  refine h X H (σ.set i (some v)) (δ.set i (.raw w)) (iv.keep k1) ?_ ?_ (iv.ok.fr k1) q
  · exact ev.put (fun r o s => s.keep iv.ok k1) ⟨v, rfl, a⟩ fun p e => by cases e
  · exact ow.put fun p e => by cases e
theorem wg_new {x : D} (q : ∀ p, kn (δ.set i (.own p x))) : Wg π (gName i) (.new x) δ kn := fun H0 X0 L X Hs H σ v Q iv ev ow k1 a h => by
  obtain ⟨p, rfl, n, t⟩ := a
  have n0 : H0 p = none := by
    cases e : H0 p with
    | none => rfl
    | some o => exact absurd n (iv.old p (by rw [e]; exact fun z => by cases z))
  have nx : ¬ X p := fun z => iv.ok.dom p z n
  have nL : ∀ a u, L a = some u → a ≠ p := fun a u e z => by
    obtain ⟨h, _⟩ := iv.lk a u e
    rw [z, n] at h
    cases h
  have m : Mo (cut X Hs) (cut (plus X p) H) := cut_keep (fun a u x e => k1.keep a u (fun z => x (iv.ok.pot a z).1) e) fun a u x e z => z.elim x (ne_of_none e n)
  have ok1 := iv.ok.keep k1
  have iv1 := iv.keep k1
  refine h (plus X p) H (σ.set i (some (.ref p))) (δ.set i (.own p x)) ?_ ?_ ?_ ⟨m, fun a h e => h (k1.free iv.ok e)⟩ (q p)
  · exact ⟨⟨fun q z => z.elim (ok1.dom q) fun z => by rw [z]; exact t.some, fun q e => ⟨.inl (ok1.pot q e).1, (ok1.pot q e).2⟩⟩, iv.ok0, iv1.kp, fun q z => .inl (iv.sub q z), fun a u e => by
      obtain ⟨h1, h2⟩ := iv1.lk a u e
      exact ⟨h1, fun z => z.elim h2 (nL a u e)⟩, iv1.old⟩
  · refine ev.put (fun r o s => s.part iv.ok k1 n) ⟨.ref p, rfl, rfl, .inr rfl, fun z => iv.ok.dom p (iv.ok.pot p z).1 n, t⟩ fun q e j s nj hj e2 => ?_
    cases e
    have hl : j < σ.length := by rw [ev.len]; exact (List.getElem?_eq_some_iff.mp hj).1
    have z := ev.at_ j s _ hj (List.getElem?_eq_getElem hl)
    cases s with
    | own q y =>
      obtain ⟨_, _, _, xq, _⟩ := z
      cases e2
      exact nx xq
    | _ => cases e2
  · exact ow.put fun q e => by
      cases e
      exact ⟨n0, fun z => nx (iv.sub p z)⟩
theorem ws_asg (q : Wp π te δ fun r => Wg π g r δ k.nx) : Ws π (tAsg te g) k δ := fun H0 X0 L X H σ D iv ev ow en => by
  refine q X H σ _ iv.ok ev fun v r H1 k1 a w => ?_
  exact w H0 X0 L X H H1 σ v D.nx iv ev ow k1 a fun X' H' σ' δ' iv' ev' ow' f w => en.nx X' H' σ' δ' iv' ev' ow' f w
theorem we_name {x : D} (q : kn (δ.set i (.d x))) : WgE π (gName i) x δ kn := fun X H σ v Q ok ev a h => by
  refine h (σ.set i (some v)) (δ.set i (.d x)) (ev.put (fun r o s => s) ⟨v, rfl, a⟩ fun p e => by cases e) (fun j r p h1 a1 => ?_) q
  rcases set_get h1 with ⟨_, e⟩ | ⟨_, g⟩
  · rw [e] at a1; cases a1
  · exact g
theorem wes_nil (q : kn δ) : WgsE π gNil [] δ kn := fun X H σ vs Q ok ev a h => by
  cases a
  exact ⟨rfl, h σ δ ev (fun _ _ _ z _ => z) q⟩
theorem wes_cons {t : TG} {u : TGs} {x : D} {xs : List D} (q : WgE π t x δ fun δ' => WgsE π u xs δ' kn) : WgsE π (gCons t u) (x :: xs) δ kn := fun X H σ vs Q ok ev a h => by
  cases a with
  | cons a r =>
    refine ⟨_, _, rfl, ?_⟩
    refine q X H σ _ _ ok ev a fun σ' δ' ev' s w => ?_
    exact w X H σ' _ Q ok ev' r fun σ2 δ2 ev2 s2 w2 => h σ2 δ2 ev2 (fun i r p h1 a1 => s i r p (s2 i r p h1 a1) a1) w2
theorem we_tup {K : PySem.W.Frag} {n : Nat} {t : TGs} {xs : List D} (hn : xs.length = n) (q : WgsE π t xs δ kn) : WgE π (gTup K n t) (.tup xs) δ kn := fun X H σ v Q ok ev a h => by
  cases a with
  | tup e r => exact ⟨_, _, rfl, SqT.of (of_cut e).2, by rw [r.length, hn], q X H σ _ Q ok ev r h⟩
theorem wg_E {x : D} (q : WgE π g x δ kn) : Wg π g (.d x) δ kn := fun H0 X0 L X Hs H σ v Q iv ev ow k1 a h =>
  q X H σ v Q (iv.ok.keep k1) (ev.keep iv.ok k1) a fun σ' δ' ev' s w => h X H σ' δ' (iv.keep k1) ev' (fun i r p h1 a1 => ow i r p (s i r p h1 a1) a1) (iv.ok.fr k1) w
theorem ws_ret (q : Wp π te δ fun r => (∀ p x, r ≠ .own p x) ∧ r ≠ .un ∧ k.rt r) : Ws π (tRet te) k δ := fun H0 X0 L X H σ D iv ev ow en => by
  refine q X H σ _ iv.ok ev fun v r H1 k1 a w => ?_
  obtain ⟨n, nu, w⟩ := w
  have iv1 := iv.keep k1
  refine en.rt X H1 v r iv1 (iv.ok.fr k1) n ?_ w
  cases r with
  | un => exact absurd rfl nu
  | d x => exact At.mono (cut_less iv.sub) a
  | own p x => exact absurd rfl (n p x)
  | new x =>
    obtain ⟨p, e, n, t⟩ := a
    refine ⟨p, e, ?_, t.less (cut_less fun a z => z.elim (fun z => .inl (iv.sub a z)) .inr)⟩
    cases e : H0 p with
    | none => rfl
    | some o => exact absurd n (iv.old p (by rw [e]; exact fun z => by cases z))
  | pot => exact a
  | raw w => exact a
theorem ws_retV {n : Nat} {p : Addr} {x : D} (h : δ[n]? = some (.own p x)) (q : k.rt (.new x)) : Ws π (tRet (tVar n)) k δ := fun H0 X0 L X H σ D iv ev ow en => by
  obtain ⟨v, e1, rfl, xp, np, t⟩ := ev.get h (fun z => by cases z)
  refine ⟨_, e1, en.rt X H _ (.new x) iv (Fr.refl X H) (fun _ _ z => by cases z) ⟨p, rfl, (ow n _ p h rfl).1, t.less (cut_less fun a z => z.elim (iv.sub a) fun z => by rw [z]; exact xp)⟩ q⟩
theorem ws_retN (q : k.rt (.d .non)) : Ws π tRetN k δ := fun H0 X0 L X H σ D iv ev ow en => en.rt X H .non (.d .non) iv (Fr.refl X H) (fun _ _ z => by cases z) At.non q
/-- a name is given up: what it holds, others may hold from here on -/
theorem ws_frz {n : Nat} {p : Addr} {x : D} (h : δ[n]? = some (.own p x)) (q : Ws π t k (δ.set n (.d x))) : Ws π t k δ := fun H0 X0 L X H σ D iv ev ow en => by
  obtain ⟨v, e1, rfl, xp, np, a⟩ := ev.get h (fun z => by cases z)
  have hp : ¬ X0 p := (ow n _ p h rfl).2
  have hp0 : H0 p = none := (ow n _ p h rfl).1
  -- p is no longer set apart
  let X' : Xs := fun a => X a ∧ a ≠ p
  have m : Mo (cut X H) (cut X' H) := cut_less fun a z => z.1
  have nX : ¬ X' p := fun z => z.2 rfl
  have hat : At (cut X' H) (.ref p) x := by
    cases x with
    | lst ds => obtain ⟨vs, e, t⟩ := a; exact .lst (cut_of nX e) (t.mono m)
    | dct kd => obtain ⟨kv, e, e2, t⟩ := a; exact .dct (.inl (cut_of nX e)) e2 (t.mono m)
    | dcT kd => obtain ⟨kv, e, e2, t⟩ := a; exact .dcT (.inl (cut_of nX e)) e2 (t.mono m)
    | obj C fd => obtain ⟨dx, fs, e, e2, t⟩ := a; exact .obj (cut_of nX e) e2 (t.mono m)
    | _ => exact a.elim
  have iv' : Iv π H0 X0 L X' H := ⟨⟨fun q z => iv.ok.dom q z.1, fun q e => ⟨⟨(iv.ok.pot q e).1, fun z => np (by rw [e, z])⟩, (iv.ok.pot q e).2⟩⟩, iv.ok0, iv.kp, fun q z => ⟨iv.sub q z, fun e => hp (e ▸ z)⟩, fun a u e => by
    obtain ⟨h1, h2⟩ := iv.lk a u e
    exact ⟨h1, fun z => h2 z.1⟩, iv.old⟩
  have es : σ.set n (some (.ref p)) = σ := by
    apply List.ext_getElem?
    intro j
    rw [List.getElem?_set]
    split
    · rename_i e
      subst e
      have hl := (List.getElem?_eq_some_iff.mp e1).1
      rw [if_pos hl, e1]
    · rfl
  have ev' : Ev π X' H σ (δ.set n (.d x)) := by
    have nd := ev.nd
    have z : Ev π X' H (σ.set n (some (.ref p))) (δ.set n (.d x)) := by
      refine ⟨by rw [List.length_set, List.length_set]; exact ev.len, fun j s o h1 h2 => ?_, fun j l s t q h1 h2 a1 a2 => ?_⟩
      · rcases set_get h1 with ⟨rfl, rfl⟩ | ⟨nj, h1⟩
        · rcases set_get h2 with ⟨_, rfl⟩ | ⟨n, _⟩
          · exact ⟨_, rfl, hat⟩
          · exact absurd rfl n
        · rcases set_get h2 with ⟨e', _⟩ | ⟨_, h2⟩
          · exact absurd e' nj
          · have y := ev.at_ j s o h1 h2
            cases s with
            | un => trivial
            | d w => obtain ⟨v, e, a⟩ := y; exact ⟨v, e, a.mono m⟩
            | own q w =>
              obtain ⟨v, e, e2, xq, nq, a⟩ := y
              exact ⟨v, e, e2, ⟨xq, fun z => nj (nd j n _ _ p h1 h (by rw [z]; rfl) rfl)⟩, nq, a.less m⟩
            | new w =>
              obtain ⟨v, e, q, e2, nq, t⟩ := y
              exact absurd nq t.some
            | pot => exact y
            | raw w => exact y
      · rcases set_get h1 with ⟨rfl, rfl⟩ | ⟨n1, h1⟩
        · cases a1
        · rcases set_get h2 with ⟨rfl, rfl⟩ | ⟨n2, h2⟩
          · cases a2
          · exact nd j l s t q h1 h2 a1 a2
    rw [es] at z
    exact z
  have fr : Fr X H X' H := ⟨m, fun _ z => z⟩
  refine q H0 X0 L X' H σ D iv' ev' (ow.put fun p e => by cases e) (en.fr fr)
end
end Dt
namespace Dt
open PySem PySem.Spec PyProof.Rows L2 Ly
def isArg : Rv → Bool
  | .d _ => true
  | .pot => true
  | .raw _ => true
  | _ => false
def noPot : Rv → Bool
  | .pot => false
  | _ => true
/-- a def over data: B says what must be so of the arguments that a result k may be counted on -/
def spW (pt : Bool) (B : List Rv → (Rv → Prop) → Prop) : Sp := fun vs H Q _ => ∃ (π : Po) (X : Xs) (rs : List Rv) (k : Rv → Prop), π.isSome = pt ∧ Ok π X H ∧ rs.all isArg = true ∧ RAts π X H H rs vs ∧ B rs k ∧
  ∀ v r H', Kp π H H' → (∀ p x, r ≠ .own p x) → RAt π X H H' r v → k r → Q v H'
def uns (n : Nat) : List Rv := List.replicate n .un
theorem undo_none {H : Hp} : undo (fun _ => none) H = H := by
  funext a
  rfl
theorem RAts.get {π : Po} {X : Xs} {H0 H : Hp} : ∀ {rs : List Rv} {vs : List V} {i : Nat} {r : Rv} {v : V}, RAts π X H0 H rs vs → rs[i]? = some r → vs[i]? = some v → RAt π X H0 H r v
  | [], [], _, _, _, _, h, _ => by simp at h
  | _ :: _, _ :: _, 0, _, _, ⟨a, _⟩, h, g => by simp at h g; subst h; subst g; exact a
  | _ :: _, _ :: _, i + 1, _, _, ⟨_, b⟩, h, g => RAts.get (i := i) b (by simpa using h) (by simpa using g)
  | [], _ :: _, _, _, _, a, _, _ => a.elim
  | _ :: _, [], _, _, _, a, _, _ => a.elim
theorem Ev.start {π : Po} {X : Xs} {H : Hp} {rs : List Rv} {vs : List V} {N : List Str} {m : Nat} (a : RAts π X H H rs vs) (h : rs.all isArg = true) (hm : N.length - vs.length = m) : Ev π X H (L2.start N vs) (rs ++ uns m) := by
  refine ⟨?_, fun i r o h1 h2 => ?_, fun i j r s p h1 h2 a1 a2 => ?_⟩
  · unfold L2.start uns
    rw [List.length_append, List.length_append, List.length_map, List.length_replicate, List.length_replicate, a.length, hm]
  · unfold L2.start at h2
    rcases Nat.lt_or_ge i rs.length with hl | hl
    · rw [List.getElem?_append_left hl] at h1
      have hl2 : i < vs.length := by rw [← a.length]; exact hl
      rw [List.getElem?_append_left (by rw [List.length_map]; exact hl2), List.getElem?_map, List.getElem?_eq_getElem hl2] at h2
      cases h2
      exact SAt.of (a.get h1 (List.getElem?_eq_getElem hl2))
    · rw [List.getElem?_append_right hl] at h1
      unfold uns at h1
      rw [List.getElem?_replicate] at h1
      split at h1
      · cases h1; trivial
      · cases h1
  · exfalso
    rcases Nat.lt_or_ge i rs.length with hl | hl
    · rw [List.getElem?_append_left hl] at h1
      have z := List.all_eq_true.mp h r (List.mem_of_getElem? h1)
      cases r <;> first | (cases a1; done) | (cases z; done)
    · rw [List.getElem?_append_right hl] at h1
      unfold uns at h1
      rw [List.getElem?_replicate] at h1
      split at h1
      · cases h1; cases a1
      · cases h1
theorem own_args {H0 : Hp} {X0 : Xs} {rs : List Rv} {m : Nat} (h : rs.all isArg = true) : Own0 H0 X0 (rs ++ uns m) := fun i r p h1 a1 => by
  exfalso
  rcases Nat.lt_or_ge i rs.length with hl | hl
  · rw [List.getElem?_append_left hl] at h1
    have z := List.all_eq_true.mp h r (List.mem_of_getElem? h1)
    cases r <;> first | (cases a1; done) | (cases z; done)
  · rw [List.getElem?_append_right hl] at h1
    unfold uns at h1
    rw [List.getElem?_replicate] at h1
    split at h1
    · cases h1; cases a1
    · cases h1
theorem run_body {pt : Bool} {B : List Rv → (Rv → Prop) → Prop} {t : TS} {N : List Str} {m n : Nat} {vs : List V} {H : Hp} {Q : VK} {E : XK} (hm : N.length - n = m) (hB : ∀ rs k, B rs k → rs.length = n)
    (ht : ∀ (π : Po) (rs : List Rv) (k : Rv → Prop), π.isSome = pt → B rs k → Ws π t ⟨fun _ => k (.d .non), k, fun _ => False, fun _ => False⟩ (rs ++ uns m)) (h : spW pt B vs H Q E) : t { nx := fun _ H' => Q .non H', rt := Q } (L2.start N vs) H := by
  obtain ⟨π, X, rs, k, hp, ok, ha, at_, b, q⟩ := h
  have hl := hB rs k b
  refine ht π rs k hp b H X (fun _ => none) X H _ _ ⟨ok, ok, by rw [undo_none]; exact ok.kp, fun _ x => x, fun a u e => (by cases e), fun _ x => x⟩ (Ev.start at_ ha (by rw [← at_.length, hl]; exact hm)) (own_args ha) ⟨fun X' H' σ δ iv _ _ _ w => ?_, fun X' H' σ δ iv _ _ _ w => w.elim, fun X' H' σ δ iv _ _ _ w => w.elim, fun X' H' v r iv _ no a w => ?_⟩
  · have z := iv.kp
    rw [undo_none] at z
    exact q .non (.d .non) H' z (fun _ _ e => by cases e) At.non w
  · have z := iv.kp
    rw [undo_none] at z
    exact q v r H' z no a w
theorem body_W {W : Wd} {k : Nat} {N : List Str} {qual : Str} {st : Stmt} {pt : Bool} {B : List Rv → (Rv → Prop) → Prop} {n m : Nat} (hm : N.length - n = m) (hB : ∀ rs k, B rs k → rs.length = n)
    (hb : ∀ (f : Addr) (cdv : Value) (A : Around) (outer : List Env) (s : Shared) (H : Hp) (E : XK), Room k (A.deeper (envOfC qual (defScope st) s.heap.objs.size f cdv)) →
      ∃ t, PSs (cxOf CX0 W.P W.w W.K W.mg W.base N qual (defScope st) f cdv A outer s H E).nox (defBody st) t ∧ ∀ (π : Po) (rs : List Rv) (kr : Rv → Prop), π.isSome = pt → B rs kr → Ws π t ⟨fun _ => kr (.d .non), kr, fun _ => False, fun _ => False⟩ (rs ++ uns m)) :
    BodyOk W k N qual st (spW pt B) := fun f cdv A outer s H vs Q E hr h => by
  obtain ⟨t, ps, w⟩ := hb f cdv A outer s H E hr
  exact ⟨t, ps, run_body hm hB w h⟩
theorem len_W {pt : Bool} {B : List Rv → (Rv → Prop) → Prop} {n : Nat} (hB : ∀ rs k, B rs k → rs.length = n) : ∀ vs H Q E, spW pt B vs H Q E → vs.length = n := fun vs H Q E ⟨π, X, rs, k, _, _, _, at_, b, _⟩ => by rw [← at_.length]; exact hB rs k b
def fzA : List Rv → Option (List Rv)
  | [] => some []
  | r :: rs => match (match r with | .d x => some (Rv.d x) | .new x => some (.d x) | .pot => some .pot | .raw v => some (.raw v) | _ => none), fzA rs with
    | some x, some xs => some (x :: xs)
    | _, _ => none
theorem fzA_all : ∀ {as rs : List Rv}, fzA as = some rs → rs.all isArg = true
  | [], _, h => by cases h; rfl
  | r :: as, rs, h => by
    unfold fzA at h
    cases h2 : fzA as with
    | none => rw [h2] at h; cases r <;> cases h
    | some xs =>
      rw [h2] at h
      have z := fzA_all h2
      cases r <;> first | (cases h; done) | (cases h; simpa [isArg] using z)
theorem RAts.fzA {π : Po} {X : Xs} {H0 H : Hp} (o0 : Ok π X H0) : ∀ {as rs : List Rv} {vs : List V}, RAts π X H0 H as vs → fzA as = some rs → RAts π X H H rs vs
  | [], _, [], _, h => by cases h; trivial
  | r :: as, rs, v :: vs, ⟨a, b⟩, h => by
    unfold Dt.fzA at h
    cases h2 : Dt.fzA as with
    | none => rw [h2] at h; cases r <;> cases h
    | some xs =>
      rw [h2] at h
      have z := b.fzA o0 h2
      cases r with
      | d x => cases h; exact ⟨a, z⟩
      | new x => cases h; exact ⟨RAt.fz (r := .new x) o0 a rfl, z⟩
      | pot => cases h; exact ⟨a, z⟩
      | raw w => cases h; exact ⟨a, z⟩
      | _ => cases h
  | [], _, _ :: _, a, _ => a.elim
  | _ :: _, _, [], a, _ => a.elim
theorem RAts.free {π : Po} {X : Xs} {H : Hp} : ∀ {rs : List Rv} {vs : List V}, rs.all isArg = true → rs.all noPot = true → RAts π X H H rs vs → RAts none X H H rs vs
  | [], [], _, _, _ => trivial
  | r :: rs, v :: vs, h, g, ⟨a, b⟩ => by
    simp only [List.all_cons, Bool.and_eq_true] at h g
    refine ⟨?_, b.free h.2 g.2⟩
    cases r with
    | d x => exact a
    | raw w => exact a
    | pot => cases g.1
    | _ => cases h.1
  | [], _ :: _, _, _, a => a.elim
  | _ :: _, [], _, _, a => a.elim
section
variable {π : Po} {k : Rv → Prop} {B : List Rv → (Rv → Prop) → Prop} {as rs : List Rv} {E : XK} {pt : Bool}
/-- a call of a def that draws, or where no pot is -/
theorem wcb_W (hp : π.isSome = pt) (hf : fzA as = some rs) (q : B rs k) : WCb π (fun vs H Q => spW pt B vs H Q E) as k := fun X H0 H xs Q o0 o k0 a h =>
  ⟨π, X, rs, k, hp, o, fzA_all hf, a.fzA o0 hf, q, fun v r H' k1 _ ra kr => h v r H' k1 (ra.base o0 k0) kr⟩
theorem Ok.none {X : Xs} {H : Hp} (o : Ok π X H) : Ok none X H := ⟨o.dom, fun q e => by cases e⟩
/-- a call of a def without the pot -/
theorem wcb_W0 (hf : fzA as = some rs) (hn : rs.all noPot = true) (q : B rs (fun r => r ≠ .pot ∧ k r)) : WCb π (fun vs H Q => spW false B vs H Q E) as k := fun X H0 H xs Q o0 o k0 a h =>
  ⟨none, X, rs, _, rfl, o.none, fzA_all hf, (a.fzA o0 hf).free (fzA_all hf) hn, q, fun v r H' k1 no ra kr => by
    have k2 : Kp π H H' := Kp.of_same o k1.same
    have ra2 : RAt π X H H' r v := by
      cases r with
      | own p x => exact absurd rfl (no p x)
      | pot => exact absurd rfl kr.1
      | _ => exact ra
    exact h v r H' k2 (ra2.base o0 k0) kr.2⟩
end
section
variable {W : Wd} {k : Nat} {C : Addr} {x m qual : Str} {st : Stmt} {N ps : List Str} {B : List Rv → (Rv → Prop) → Prop} {pt : Bool}
theorem cl_W (g : GF W.K W.mg x st) (S : FnScope N ps (defScope st)) (hb : BindOk x x st ps) (hB : ∀ rs k, B rs k → rs.length = ps.length) (hbody : BodyOk W k N x st (spW pt B)) : Cl W (k + 1) x (spW pt B) := cl_of' g S hb (len_W hB) hbody
theorem mt_W (g : GM W.K C m qual st) (S : FnScope N ps (defScope st)) (hb : BindOk m qual st ps) (hB : ∀ rs k, B rs k → rs.length = ps.length) (hbody : BodyOk W k N qual st (spW pt B)) : Mt W (k + 1) C m (spW pt B) := mt_of g S hb (len_W hB) hbody
theorem sm_W (g : GS W.K C m qual st) (S : FnScope N ps (defScope st)) (hb : BindOk m qual st ps) (hB : ∀ rs k, B rs k → rs.length = ps.length) (hbody : BodyOk W k N qual st (spW pt B)) : Sm W (k + 1) C m (spW pt B) := sm_of g S hb (len_W hB) hbody
theorem pp_W (g : GP W.K C m qual st) (S : FnScope N ps (defScope st)) (hb : BindOk m qual st ps) (hB : ∀ rs k, B rs k → rs.length = ps.length) (hbody : BodyOk W k N qual st (spW pt B)) : Pp W (k + 1) C m (spW pt B) := pp_of g S hb (len_W hB) hbody
end
section
variable {π : Po} {δ : List Rv} {k : Rv → Prop} {ta : TE} {t : TA} {K : PySem.W.Frag} {f m : Str} {C : Addr} {sp : Sp} {dvs : List V}
def Rv.ob : Rv → Option (Addr × List (Str × D))
  | .d (.obj C fs) => some (C, fs)
  | .own _ (.obj C fs) => some (C, fs)
  | .new (.obj C fs) => some (C, fs)
  | _ => none
theorem RAt.ob {X : Xs} {H0 H : Hp} {r : Rv} {v : V} {fd : List (Str × D)} (a : RAt π X H0 H r v) (h : r.ob = some (C, fd)) : ∃ p dx fs, v = .ref p ∧ H p = some (.ins C dx fs) ∧ fs.map (·.1) = fd.map (·.1) ∧ Ats (cut X H) (fs.map (·.2)) (fd.map (·.2)) := by
  cases r with
  | d x =>
    cases x with
    | obj C' es => cases h; cases a with | obj e e2 t => exact ⟨_, _, _, rfl, (of_cut e).2, e2, t⟩
    | _ => cases h
  | own p x =>
    cases x with
    | obj C' es => cases h; obtain ⟨e, _, _, dx, fs, e2, e3, t⟩ := a; exact ⟨p, dx, fs, e, e2, e3, t⟩
    | _ => cases h
  | new x =>
    cases x with
    | obj C' es => cases h; obtain ⟨p, e, _, dx, fs, e2, e3, t⟩ := a; exact ⟨p, dx, fs, e, e2, e3, t.mono plus_sub⟩
    | _ => cases h
  | _ => cases h
theorem lookup_at {H : Hp} : ∀ {fs : List (Str × V)} {fd : List (Str × D)} {d : D}, fs.map (·.1) = fd.map (·.1) → Ats H (fs.map (·.2)) (fd.map (·.2)) → fd.lookup f = some d → ∃ v, fs.lookup f = some v ∧ At H v d
  | [], [], _, _, _, h => by cases h
  | [], _ :: _, _, h, _, _ => by cases h
  | _ :: _, [], _, h, _, _ => by cases h
  | (a, v) :: fs, (b, c) :: fd, d, h, t, g => by
    simp only [List.map_cons, List.cons.injEq] at h
    obtain ⟨e, h⟩ := h
    cases t with
    | cons a1 t =>
      have e : a = b := e
      subst e
      rw [List.lookup_cons] at g ⊢
      cases hf : f == a with
      | true => rw [hf] at g; cases g; exact ⟨v, rfl, a1⟩
      | false => rw [hf] at g; exact lookup_at h t g
theorem lookup_no : ∀ {fs : List (Str × V)} {fd : List (Str × D)}, fs.map (·.1) = fd.map (·.1) → fd.lookup f = none → fs.lookup f = none
  | [], [], _, h => rfl
  | [], _ :: _, h, _ => by cases h
  | _ :: _, [], h, _ => by cases h
  | (a, v) :: fs, (b, c) :: fd, h, g => by
    simp only [List.map_cons, List.cons.injEq] at h
    obtain ⟨e, h⟩ := h
    have e : a = b := e
    subst e
    rw [List.lookup_cons] at g ⊢
    cases hf : f == a with
    | true => rw [hf] at g; cases g
    | false => rw [hf] at g; exact lookup_no h g
/-- o.f -/
def Fld (K : PySem.W.Frag) (f : Str) (r : Rv) (k : Rv → Prop) : Prop := ∃ C fd d, r.ob = some (C, fd) ∧ Cls K C ∧ NoAttr K C f ∧ fd.lookup f = some d ∧ k (.d d)
theorem w_fld (q : Wp π ta δ fun r => Fld K f r k) : Wp π (tFld K ta f) δ k := fun X H σ Q o e h => by
  refine q X H σ _ o e fun v r H1 k1 a w => ?_
  obtain ⟨C, fd, d, ho, c, n, l, kd⟩ := w
  obtain ⟨p, dx, fs, rfl, e1, e2, t⟩ := a.ob ho
  obtain ⟨v, hv, av⟩ := lookup_at e2 t l
  exact ⟨p, C, dx, fs, v, rfl, e1, c, n, hv, h v (.d d) H1 k1 av kd⟩
/-- o.p, a property -/
theorem w_prop {E : XK} (q : Wp π ta δ fun r => (∃ fd, r.ob = some (C, fd)) ∧ WCb π (fun vs H Q => sp vs H Q E) [r] k) : Wp π (tProp C sp [] E ta) δ k := fun X H σ Q o e h => by
  refine q X H σ _ o e fun v r H1 k1 a w => ?_
  obtain ⟨⟨fd, ho⟩, w⟩ := w
  obtain ⟨p, dx, fs, rfl, e1, e2, t⟩ := a.ob ho
  exact ⟨p, dx, fs, rfl, e1, w X H H1 [.ref p] Q o (o.keep k1) k1 ⟨a, trivial⟩ fun v z H' k2 ra kz => h v z H' (k1.trans k2) ra kz⟩
/-- o.m(..) -/
theorem w_meth (q : Wp π ta δ fun r => (∃ fd, r.ob = some (C, fd) ∧ fd.lookup m = none) ∧ WpA π t δ fun as => WCb π (fun vs H Q => sp vs H Q E0) (r :: as) k) : Wp π (tMeth C m sp [] E0 ta t) δ k := fun X H σ Q o e h => by
  refine i_meth ?_
  refine q X H σ _ o e fun v r H1 k1 a w => ?_
  obtain ⟨⟨fd, ho, hm⟩, w⟩ := w
  obtain ⟨p, dx, fs, rfl, e1, e2, _⟩ := a.ob ho
  refine ⟨p, dx, fs, rfl, e1, lookup_no e2 hm, ?_⟩
  have o1 := o.keep k1
  refine w X H1 σ _ o1 (e.keep o k1) fun vs as H2 k2 a2 w2 => ?_
  exact w2 X H H2 (.ref p :: vs) Q o (o1.keep k2) (k1.trans k2) ⟨a.keep o1 k1 o k2, a2.base o k1⟩ fun v z H' k3 ra kz => h v z H' ((k1.trans k2).trans k3) ra kz
theorem w_smeth (q : WpA π t δ fun as => WCb π (fun vs H Q => sp vs H Q E0) as k) : Wp π (tSMeth C sp [] (tC (.ref C)) t) δ k := fun X H σ Q o e h => by
  refine i_smeth ?_
  exact w_cb (r := fun vs H Q => sp vs H Q E0) q X H σ Q o e h
end
end Dt
namespace Dt
open PySem PySem.Spec PyProof.Rows L2 Ly
/-- an iterator that gives these, one after another, wherever the body has come to -/
structure Itw (π : Po) (J : L2.It) (X : Xs) (H : Hp) (Z : Hp → Prop) (ds : List D) : Prop where
  go : ∀ (i : Nat) (X' : Xs) (H' : Hp), Fr X H X' H' → Z H' → i < ds.length → J.go i H' ∧ ∀ x H'', J.yld i H' x H'' → Ok π X' H' → Kp π H' H'' ∧ ∃ d, ds[i]? = some d ∧ At (cut X' H'') x d
  stop : ∀ (i : Nat) (X' : Xs) (H' : Hp), Fr X H X' H' → Z H' → ds.length ≤ i → J.stop i H'
def Any : Hp → Prop := fun _ => True
def WpI (π : Po) (wi : TI) (δ : List Rv) (k : List D → Prop) : Prop :=
  ∀ (X : Xs) (H : Hp) (σ : L2.St) (R : L2.It → Hp → Prop), Ok π X H → Ev π X H σ δ → (∀ J H' ds, Kp π H H' → Itw π J X H' Any ds → k ds → R J H') → wi σ H R
section
variable {π : Po} {δ : List Rv} {K : PySem.W.Frag} {te : TE} {ta : TA} {k : List D → Prop}
theorem itw_list {X : Xs} {H : Hp} {p : Addr} {ds : List D} (a : At (cut X H) (.ref p) (.lst ds)) : Itw π (Itl K p) X H Any ds := by
  refine ⟨fun i X' H' f _ hi => ?_, fun i X' H' f _ hi => ?_⟩
  · cases a.mono f.mo with
    | lst e t =>
      obtain ⟨v, hv, _⟩ := t.get (List.getElem?_eq_getElem hi)
      refine ⟨⟨_, v, SqL.of (of_cut e).2, hv⟩, fun x H'' y ok => ?_⟩
      obtain ⟨rfl, y⟩ := y
      obtain ⟨d, hd, ad⟩ := t.got (y _ (SqL.of (of_cut e).2))
      exact ⟨ok.kp, d, hd, ad⟩
  · cases a.mono f.mo with
    | lst e t => exact ⟨_, SqL.of (of_cut e).2, by rw [t.length]; exact hi⟩
theorem itw_tup {X : Xs} {H : Hp} {p : Addr} {ds : List D} (a : At (cut X H) (.ref p) (.tup ds)) : Itw π (Itt K p) X H Any ds := by
  refine ⟨fun i X' H' f _ hi => ?_, fun i X' H' f _ hi => ?_⟩
  · cases a.mono f.mo with
    | tup e t =>
      obtain ⟨v, hv, _⟩ := t.get (List.getElem?_eq_getElem hi)
      refine ⟨⟨_, v, SqT.of (of_cut e).2, hv⟩, fun x H'' y ok => ?_⟩
      obtain ⟨rfl, y⟩ := y
      obtain ⟨d, hd, ad⟩ := t.got (y _ (SqT.of (of_cut e).2))
      exact ⟨ok.kp, d, hd, ad⟩
  · cases a.mono f.mo with
    | tup e t => exact ⟨_, SqT.of (of_cut e).2, by rw [t.length]; exact hi⟩
theorem wi_list (q : Wp π te δ fun r => ∃ ds, r.fz = some (.lst ds) ∧ k ds) : WpI π (iList K te) δ k := fun X H σ R o e h => by
  refine q X H σ _ o e fun v r H1 k1 a w => ?_
  obtain ⟨ds, hf, kd⟩ := w
  have at_ := a.fz o hf
  cases id at_ with
  | lst e t => exact ⟨_, rfl, ⟨_, SqL.of (of_cut e).2⟩, h _ H1 ds k1 (itw_list at_) kd⟩
theorem wi_tup (q : Wp π te δ fun r => ∃ ds, r = .d (.tup ds) ∧ k ds) : WpI π (iTup K te) δ k := fun X H σ R o e h => by
  refine q X H σ _ o e fun v r H1 k1 a w => ?_
  obtain ⟨ds, rfl, kd⟩ := w
  cases id a with
  | tup e t => exact ⟨_, rfl, ⟨_, SqT.of (of_cut e).2⟩, h _ H1 ds k1 (itw_tup a) kd⟩
end
section
variable {π : Po} {δ : List Rv} {k : Ke} {wi : TI} {g : TG} {tb : TS} {c : TT}
/-- what a loop asks of its items -/
def ForK (π : Po) (g : TG) (tb : TS) (k : Ke) (δ : List Rv) (ds : List D) : Prop := ∃ I : Nat → List Rv → Prop, I 0 δ ∧ (∀ (i : Nat) (d : D) (δ' : List Rv), ds[i]? = some d → I i δ' → WgE π g d δ' fun δ2 => Ws π tb { nx := I (i + 1), rt := k.rt, bk := k.nx, ct := I (i + 1) } δ2) ∧ ∀ δ', I ds.length δ' → k.nx δ'
theorem for_at {H0 : Hp} {X0 : Xs} {L : Lk} {X : Xs} {H H1 : Hp} {σ : L2.St} {D : Ends} {J : L2.It} {Z : Hp → Prop} {ds : List Dt.D} (iv1 : Iv π H0 X0 L X H1) (ev1 : Ev π X H1 σ δ) (ow : Own0 H0 X0 δ) (f01 : Fr X H X H1) (en : EndsOk π H0 X0 L X H k D) (it : Itw π J X H1 Z ds)
    (hZ : ∀ X' H', Iv π H0 X0 L X' H' → Z H') (w : ForK π g tb k δ ds) : rForJ J g tb D σ H1 := by
  obtain ⟨I, i0, turn, fin⟩ := w
  refine ⟨fun i m σ' H' => m = ds.length - i ∧ i ≤ ds.length ∧ ∃ X' δ', Iv π H0 X0 L X' H' ∧ Ev π X' H' σ' δ' ∧ Own0 H0 X0 δ' ∧ Fr X H1 X' H' ∧ I i δ', ⟨_, rfl, Nat.zero_le _, X, δ, iv1, ev1, ow, Fr.refl X H1, i0⟩, ?_⟩
  rintro i m σ' H' ⟨rfl, hi, X', δ', iv', ev', ow', f', hI⟩
  by_cases hlt : i < ds.length
  · obtain ⟨hg, hy⟩ := it.go i X' H' f' (hZ X' H' iv') hlt
    refine .inr ⟨hg, fun σ2 H2 => i + 1 ≤ ds.length ∧ ∃ X2 δ2, Iv π H0 X0 L X2 H2 ∧ Ev π X2 H2 σ2 δ2 ∧ Own0 H0 X0 δ2 ∧ Fr X H1 X2 H2 ∧ I (i + 1) δ2, fun σ2 H2 z => ⟨ds.length - (i + 1), by omega, rfl, z⟩, fun x H'' y => ?_⟩
    obtain ⟨k2, d, hd, ad⟩ := hy x H'' y iv'.ok
    have iv3 := iv'.keep k2
    refine turn i d δ' hd hI X' H'' σ' x _ iv3.ok (ev'.keep iv'.ok k2) ad fun σ3 δ3 ev3 s3 w3 => ?_
    have f13 := f'.trans (iv'.ok.fr k2)
    have ow3 : Own0 H0 X0 δ3 := fun i r p h1 a1 => ow' i r p (s3 i r p h1 a1) a1
    refine w3 H0 X0 L X' H'' σ3 _ iv3 ev3 ow3 ⟨fun X4 H4 σ4 δ4 iv4 ev4 ow4 f4 z => ?_, fun X4 H4 σ4 δ4 iv4 ev4 ow4 f4 z => ?_, fun X4 H4 σ4 δ4 iv4 ev4 ow4 f4 z => ?_, fun X4 H4 v r iv4 f4 no a z => ?_⟩
    · exact ⟨hlt, X4, δ4, iv4, ev4, ow4, f13.trans f4, z⟩
    · exact en.nx X4 H4 σ4 δ4 iv4 ev4 ow4 (f01.trans (f13.trans f4)) z
    · exact ⟨hlt, X4, δ4, iv4, ev4, ow4, f13.trans f4, z⟩
    · exact en.rt X4 H4 v r iv4 (f01.trans (f13.trans f4)) no a z
  · have e : i = ds.length := by omega
    refine .inl ⟨it.stop i X' H' f' (hZ X' H' iv') (by omega), en.nx X' H' σ' δ' iv' ev' ow' (f01.trans f') (fin δ' (e ▸ hI))⟩
theorem ws_for (q : WpI π wi δ fun ds => ForK π g tb k δ ds) : Ws π (tFor wi g tb) k δ := fun H0 X0 L X H σ D iv ev ow en => by
  refine q X H σ _ iv.ok ev fun J H1 ds k1 it w => ?_
  exact for_at (iv.keep k1) (ev.keep iv.ok k1) ow (iv.ok.fr k1) en it (fun _ _ _ => trivial) w
end
def wipeD (δ : List Rv) : List Nat → List Rv
  | [] => δ
  | v :: vs => (wipeD δ vs).set v .un
theorem Ev.wipe {π : Po} {X : Xs} {H : Hp} {σ : L2.St} {δ : List Rv} (e : Ev π X H σ δ) : ∀ vs, Ev π X H (L2.wipe σ vs) (wipeD δ vs)
  | [] => e
  | v :: vs => by
    have z := e.wipe vs
    refine ⟨by rw [wipeD, L2.wipe, List.length_set, List.length_set]; exact z.len, fun j s o h1 h2 => ?_, fun j l s t p h1 h2 a1 a2 => ?_⟩
    · rcases set_get h1 with ⟨e1, e2⟩ | ⟨n, g1⟩
      · rw [e2]; trivial
      · rcases set_get h2 with ⟨e1, e2⟩ | ⟨_, g2⟩
        · exact absurd e1 n
        · exact z.at_ j s o g1 g2
    · rcases set_get h1 with ⟨e1, e2⟩ | ⟨n, g1⟩
      · rw [e2] at a1; cases a1
      · rcases set_get h2 with ⟨e1, e2⟩ | ⟨_, g2⟩
        · rw [e2] at a2; cases a2
        · exact z.nd j l s t p g1 g2 a1 a2
/-- a target of names vs alone -/
def GN (g : TG) (vs : List Nat) : Prop := ∀ v σ H (Q : L2.St → Hp → Prop), g v σ H Q → g v σ H fun σ' H' => L2.wipe σ' vs = L2.wipe σ vs ∧ Q σ' H'
def GNs (g : TGs) (vs : List Nat) : Prop := ∀ v σ H (Q : L2.St → Hp → Prop), g v σ H Q → g v σ H fun σ' H' => L2.wipe σ' vs = L2.wipe σ vs ∧ Q σ' H'
theorem wipe_set {σ : L2.St} {i : Nat} {o : Option V} : ∀ {vs : List Nat}, i ∈ vs → L2.wipe (σ.set i o) vs = L2.wipe σ vs
  | v :: vs, h => by
    by_cases hm : i ∈ vs
    · show (L2.wipe (σ.set i o) vs).set v none = (L2.wipe σ vs).set v none
      rw [wipe_set hm]
    · have e : i = v := by
        rcases List.mem_cons.mp h with h | h
        · exact h
        · exact absurd h hm
      subst e
      have comm : ∀ (us : List Nat), i ∉ us → L2.wipe (σ.set i o) us = (L2.wipe σ us).set i o := by
        intro us
        induction us with
        | nil => intro _; rfl
        | cons u us ih =>
          intro hn
          have h1 : i ≠ u := fun z => hn (by rw [z]; exact List.mem_cons_self)
          show (L2.wipe (σ.set i o) us).set u none = ((L2.wipe σ us).set u none).set i o
          rw [ih fun z => hn (List.mem_cons_of_mem _ z), List.set_comm _ _ h1]
      show (L2.wipe (σ.set i o) vs).set i none = (L2.wipe σ vs).set i none
      rw [comm vs hm, List.set_set]
theorem gn_name {i : Nat} {vs : List Nat} (h : i ∈ vs) : GN (gName i) vs := fun v σ H Q q => ⟨wipe_set h, q⟩
theorem gn_nil {vs : List Nat} : GNs gNil vs := fun v σ H Q q => ⟨q.1, rfl, q.2⟩
theorem gn_cons {t : TG} {u : TGs} {vs : List Nat} (ht : GN t vs) (hu : GNs u vs) (mt : ∀ v σ H (P Q : L2.St → Hp → Prop), (∀ a b, P a b → Q a b) → t v σ H P → t v σ H Q) : GNs (gCons t u) vs := fun v σ H Q q => by
  obtain ⟨x, r, rfl, q⟩ := q
  refine ⟨x, r, rfl, mt _ _ _ _ _ ?_ (ht _ _ _ _ q)⟩
  rintro σ1 H1 ⟨e, q⟩
  have z := hu _ _ _ _ q
  rw [e] at z
  exact z
theorem gn_tup {K : PySem.W.Frag} {n : Nat} {t : TGs} {vs : List Nat} (h : GNs t vs) : GN (gTup K n t) vs := fun v σ H Q q => by
  obtain ⟨a, xs, e, s, l, q⟩ := q
  exact ⟨a, xs, e, s, l, h _ _ _ _ q⟩
theorem gm_name {i : Nat} : ∀ v σ H (P Q : L2.St → Hp → Prop), (∀ a b, P a b → Q a b) → gName i v σ H P → gName i v σ H Q := fun _ _ _ _ _ h q => h _ _ q
section
variable {π : Po} {δ : List Rv} {k : Rv → Prop} {wi : TI} {g : TG} {tt : TT} {te : TE} {vs : List Nat}
theorem wipe_idem {σ : L2.St} : ∀ {vs : List Nat}, L2.wipe (L2.wipe σ vs) vs = L2.wipe σ vs
  | [] => rfl
  | v :: vs => by
    show (L2.wipe ((L2.wipe σ vs).set v none) vs).set v none = (L2.wipe σ vs).set v none
    by_cases hm : v ∈ vs
    · rw [wipe_set hm, wipe_idem]
    · have comm : ∀ (us : List Nat) (τ : L2.St), v ∉ us → L2.wipe (τ.set v none) us = (L2.wipe τ us).set v none := by
        intro us
        induction us with
        | nil => intro _ _; rfl
        | cons u us ih =>
          intro τ hn
          have h1 : v ≠ u := fun z => hn (by rw [z]; exact List.mem_cons_self)
          show (L2.wipe (τ.set v none) us).set u none = ((L2.wipe τ us).set u none).set v none
          rw [ih τ fun z => hn (List.mem_cons_of_mem _ z), List.set_comm _ _ h1]
      rw [comm vs _ hm, wipe_idem, List.set_set]
/-- what a comprehension asks of its items -/
def LcK (π : Po) (g : TG) (tt : TT) (te : TE) (vs : List Nat) (k : Rv → Prop) (δ : List Rv) (ds : List D) : Prop := ∃ I : Nat → List D → Prop, I 0 [] ∧ (∀ (i : Nat) (d : D) (acc : List D), ds[i]? = some d → I i acc →
      WgE π g d (wipeD δ vs) fun δ2 => WpT π tt δ2 fun b => if b = true then Wp π te δ2 fun r => ∃ x, r.fz = some x ∧ acc.length < 4000 ∧ I (i + 1) (acc ++ [x]) else I (i + 1) acc) ∧ ∀ acc, I ds.length acc → k (.new (.lst acc))
theorem lc_at {X : Xs} {H H1 : Hp} {σ : L2.St} {Q : VK} {J : L2.It} {Z : Hp → Prop} {ds : List D} (hg : GN g vs) (o : Ok π X H) (e1 : Ev π X H1 σ δ) (k1 : Kp π H H1) (it : Itw π J X H1 Z ds) (hZ : ∀ H', Kp π H1 H' → Z H') (w : LcK π g tt te vs k δ ds)
    (h : ∀ v r H', Kp π H H' → RAt π X H H' r v → k r → Q v H') : rLc J g tt te vs σ H1 Q := by
  obtain ⟨I, i0, turn, fin⟩ := w
  intro D nD
  have o1 := o.keep k1
  have nX : ¬ X D := fun z => o1.dom D z nD
  have okD : ∀ H', Kp π H1 H' → H' D ≠ none → Ok π (plus X D) H' := fun H' k2 hD => ⟨fun p z => z.elim ((o1.keep k2).dom p) fun z => by rw [z]; exact hD, fun q e => ⟨.inl (o1.pot q e).1, k2.pot q e⟩⟩
  have npD : π ≠ some D := fun z => nX (o1.pot D z).1
  refine ⟨fun i m H' => m = ds.length - i ∧ i ≤ ds.length ∧ ∃ acc vs', H' D = some (.lst vs') ∧ Ats (cut (plus X D) H') vs' acc ∧ Kp π H1 H' ∧ I i acc, ⟨_, rfl, Nat.zero_le _, [], [], upd_same, .nil, o1.kp.add o1 nD, i0⟩, ?_⟩
  rintro i m H' ⟨rfl, hi, acc, vs', hD, ha, k2, hI⟩
  have oD := okD H' k2 (by rw [hD]; exact fun z => by cases z)
  have fD : Fr X H1 (plus X D) H' := ⟨cut_keep (fun a u n e => k2.keep a u (fun z => n (o1.pot a z).1) e) fun a u n e z => z.elim n (ne_of_none e nD), fun a h e => h (k2.free o1 e)⟩
  by_cases hlt : i < ds.length
  · obtain ⟨hg1, hy⟩ := it.go i (plus X D) H' fD (hZ H' k2) hlt
    refine .inr ⟨hg1, fun H2 => i + 1 ≤ ds.length ∧ ∃ acc vs', H2 D = some (.lst vs') ∧ Ats (cut (plus X D) H2) vs' acc ∧ Kp π H1 H2 ∧ I (i + 1) acc, fun H2 z => ⟨ds.length - (i + 1), by omega, rfl, z⟩, fun x H'' y => ?_⟩
    obtain ⟨k3, d, hd, ad⟩ := hy x H'' y oD
    have o3 := oD.keep k3
    have hD3 := k3.keep D _ npD hD
    have ha3 := ha.mono (oD.mo k3)
    have ev' : Ev π (plus X D) H'' (L2.wipe σ vs) (wipeD δ vs) := by
      have z := e1.wipe vs
      exact ⟨z.len, fun j s o h1 h2 => (z.at_ j s o h1 h2).part o1 (k2.trans k3) nD, z.nd⟩
    have main := hg x _ _ _ (turn i d acc hd hI (plus X D) H'' (L2.wipe σ vs) x (fun σ2 H2 => tt σ2 H2 fun b H3 =>
      if b = true then te σ2 H3 fun y H4 => ∃ acc, H4 D = some (.lst acc) ∧ acc.length < sizeLine ∧ (i + 1 ≤ ds.length ∧ ∃ acc2 vs', (L2.upd H4 D (.lst (acc ++ [y]))) D = some (.lst vs') ∧ Ats (cut (plus X D) (L2.upd H4 D (.lst (acc ++ [y])))) vs' acc2 ∧ Kp π H1 (L2.upd H4 D (.lst (acc ++ [y]))) ∧ I (i + 1) acc2)
      else i + 1 ≤ ds.length ∧ ∃ acc vs', H3 D = some (.lst vs') ∧ Ats (cut (plus X D) H3) vs' acc ∧ Kp π H1 H3 ∧ I (i + 1) acc) o3 ev' ad fun σ3 δ3 ev3 s3 w3 => ?_)
    · rw [wipe_idem] at main
      exact main
    · refine w3 (plus X D) H'' σ3 _ o3 ev3 fun b H3 k4 w4 => ?_
      have o4 := o3.keep k4
      have hD4 := k4.keep D _ npD hD3
      have ha4 := ha3.mono (o3.mo k4)
      have k24 := (k2.trans k3).trans k4
      dsimp only at w4
      split at w4
      · rw [if_pos ‹_›]
        refine w4 (plus X D) H3 σ3 _ o4 (ev3.keep o3 k4) fun y r H4 k5 a w5 => ?_
        obtain ⟨z, hf, hz, hI2⟩ := w5
        have az := a.fz o4 hf
        have hD5 := k5.keep D _ npD hD4
        have ha5 := ha4.mono (o4.mo k5)
        have mo5 : Mo (cut (plus X D) H4) (cut (plus X D) (L2.upd H4 D (.lst (vs' ++ [y])))) := cut_keep (fun a u n e => by rw [upd_ne (fun z => n (.inr z))]; exact e) fun _ _ n _ => n
        refine ⟨vs', hD5, ?_, hlt, acc ++ [z], vs' ++ [y], upd_same, (ha5.mono mo5).snoc (az.mono mo5), ⟨fun a u n e => ?_, fun q e => ?_⟩, hI2⟩
        · rw [ha5.length]; exact Nat.lt_of_lt_of_le hz (by decide)
        · rw [upd_ne (ne_of_none e nD)]
          exact (k24.trans k5).keep a u n e
        · obtain ⟨a, b, h', g⟩ := k5.pot q e
          exact ⟨a, b, by rw [upd_ne (fun z => npD (by rw [e, z]))]; exact h', g⟩
      · rw [if_neg ‹_›]
        exact ⟨hlt, acc, vs', hD4, ha4, k24, w4⟩
  · have e : i = ds.length := by omega
    refine .inl ⟨it.stop i (plus X D) H' fD (hZ H' k2) (by omega), ?_⟩
    exact h (.ref D) (.new (.lst acc)) H' (k1.trans k2) ⟨D, rfl, k1.free o nD, vs', hD, ha⟩ (fin acc (e ▸ hI))
theorem w_lc (hg : GN g vs) (q : WpI π wi δ fun ds => LcK π g tt te vs k δ ds) : Wp π (tLc wi g tt te vs) δ k := fun X H σ Q o e h => by
  refine q X H σ _ o e fun J H1 ds k1 it w => ?_
  exact lc_at hg o (e.keep o k1) k1 it (fun _ _ => trivial) w h
end
end Dt
namespace Dt
open PySem PySem.Spec PyProof.Rows L2 Ly
abbrev fracD (p : Int × Int) : D := .tup [.int p.1, .int p.2]
section
variable {π : Po} {δ : List Rv} {k : Rv → Prop} {E : XK} {P : Prop}
theorem out_d {x : D} (q : k (.d x)) : (∀ p y, Rv.d x ≠ .own p y) ∧ Rv.d x ≠ .un ∧ k (.d x) := ⟨fun _ _ z => (by cases z), fun z => (by cases z), q⟩
theorem out_new {x : D} (q : k (.new x)) : (∀ p y, Rv.new x ≠ .own p y) ∧ Rv.new x ≠ .un ∧ k (.new x) := ⟨fun _ _ z => (by cases z), fun z => (by cases z), q⟩
theorem ex_bl {b : Bool} {P : Bool → Prop} (q : P b) : ∃ c, Rv.d (.bl b) = .d (.bl c) ∧ P c := ⟨b, rfl, q⟩
theorem ite_t {A B : Prop} (h : A) : if true = true then A else B := by rw [if_pos rfl]; exact h
theorem ite_f {A B : Prop} (h : B) : if false = true then A else B := by rw [if_neg Bool.false_ne_true]; exact h
theorem ite_b {b : Bool} {A B : Prop} (h1 : b = true → A) (h2 : b = false → B) : if b = true then A else B := by
  cases b with
  | true => exact ite_t (h1 rfl)
  | false => exact ite_f (h2 rfl)
theorem ite_d {p A B : Prop} [Decidable p] (h1 : p → A) (h2 : ¬ p → B) : if decide p = true then A else B := by
  by_cases h : p
  · rw [decide_eq_true h]; exact ite_t (h1 h)
  · rw [decide_eq_false h]; exact ite_f (h2 h)
theorem wt_yes {k : Bool → Prop} (q : k true) : WpT π tYes δ k := fun X H σ Q o e h => h true H o.kp q
theorem wcb_draw {n : Int} (hn : 0 < n) (hz : Sz 4000 n) (q : ∀ d, 0 ≤ d → d < n → k (.d (.int d))) : WCb π (fun vs H Q => spDraw vs H Q E) [.pot, .d (.int n)] k := fun X H0 H xs Q o0 o k0 a h => by
  match xs, a with
  | [x, y], ⟨a1, a2, _⟩ =>
    obtain ⟨p, hp, rfl⟩ := a1
    cases a2
    subst hp
    exact i_draw (o.pot p rfl).2 hn hz fun d H' d0 d1 dr => h (.int d) (.d (.int d)) H' (Kp.of_dr dr) (At.int d) (q d d0 d1)
theorem wcb_frac {u d : Int} (hd : d ≠ 0) (z1 : Sz 8900 u) (z2 : Sz 8900 d) (q : k (.d (fracD (Nu u d, De u d)))) : WCb π (fun vs H Q => spFrac vs H Q E) [.d (.int u), .d (.int d)] k := fun X H0 H xs Q o0 o k0 a h => by
  match xs, a with
  | [x, y], ⟨a1, a2, _⟩ =>
    cases a1
    cases a2
    refine i_frac hd z1 z2 fun r H' n s f => h (.ref r) (.d (fracD (Nu u d, De u d))) H' (Kp.of_same o s) ?_ q
    exact At.tup (cut_of (fun z => o.dom r z n) f) (.cons (.int _) (.cons (.int _) .nil))
/-- one name of a comprehension -/
theorem w_lc1 {wi : TI} {te : TE} {vs : List Nat} {j : Nat} (hj : j ∈ vs) (P : Nat → D → D → Prop) (q : WpI π wi δ fun ds => ds.length ≤ 4000 ∧ (∀ (i : Nat) (d : D), ds[i]? = some d → Wp π te ((wipeD δ vs).set j (.d d)) fun r => ∃ x, r.fz = some x ∧ P i d x) ∧
      ∀ xs, xs.length = ds.length → (∀ (i : Nat) (d x : D), ds[i]? = some d → xs[i]? = some x → P i d x) → k (.new (.lst xs))) : Wp π (tLc wi (gName j) tYes te vs) δ k := by
  refine w_lc (gn_name hj) ?_
  intro X H σ R o e h
  refine q X H σ R o e fun J H' ds k1 it w => h J H' ds k1 it ?_
  obtain ⟨hl, turn, fin⟩ := w
  refine ⟨fun i acc => acc.length = i ∧ ∀ (m : Nat) (d x : D), ds[m]? = some d → acc[m]? = some x → P m d x, ⟨rfl, fun m d x _ h => by simp at h⟩, fun i d acc hd hI => ?_, fun acc hI => fin acc hI.1 hI.2⟩
  refine we_name (wt_yes (ite_t ((turn i d hd).imp fun r hr => ?_)))
  obtain ⟨x, hf, px⟩ := hr
  have hlt := (List.getElem?_eq_some_iff.mp hd).1
  refine ⟨x, hf, by omega, by rw [List.length_append, hI.1]; rfl, fun m d' x' h1 h2 => ?_⟩
  rcases Nat.lt_or_ge m acc.length with hm | hm
  · rw [List.getElem?_append_left hm] at h2
    exact hI.2 m d' x' h1 h2
  · rw [List.getElem?_append_right hm] at h2
    have hm2 : m - acc.length < 1 := by simpa using (List.getElem?_eq_some_iff.mp h2).1
    have : m = i := by omega
    subst this
    rw [hI.1, Nat.sub_self] at h2
    cases h2
    rw [hd] at h1
    cases h1
    exact px
/-- over a list: told item by item -/
theorem w_lcM {wi : TI} {te : TE} {vs : List Nat} {j : Nat} (hj : j ∈ vs) (f : D → D) (q : WpI π wi δ fun ds => ds.length ≤ 4000 ∧ (∀ d, d ∈ ds → Wp π te ((wipeD δ vs).set j (.d d)) fun r => r.fz = some (f d)) ∧ k (.new (.lst (ds.map f)))) : Wp π (tLc wi (gName j) tYes te vs) δ k := by
  refine w_lc1 hj (fun _ d x => x = f d) ?_
  intro X H σ R o e h
  refine q X H σ R o e fun J H' ds k1 it w => h J H' ds k1 it ?_
  obtain ⟨hl, turn, fin⟩ := w
  refine ⟨hl, fun i d hd => (turn d (List.mem_of_getElem? hd)).imp fun r hr => ⟨f d, hr, rfl⟩, fun xs hx hp => ?_⟩
  have e : xs = ds.map f := by
    apply List.ext_getElem?
    intro i
    rw [List.getElem?_map]
    rcases Nat.lt_or_ge i ds.length with hl | hl
    · rw [List.getElem?_eq_getElem hl]
      have hl2 : i < xs.length := by omega
      rw [List.getElem?_eq_getElem hl2, hp i _ _ (List.getElem?_eq_getElem hl) (List.getElem?_eq_getElem hl2)]
      rfl
    · rw [List.getElem?_eq_none hl, List.getElem?_eq_none (by omega)]
      rfl
  rw [e]
  exact fin
/-- .. and chosen -/
theorem w_lcF {wi : TI} {tt : TT} {te : TE} {vs : List Nat} {j : Nat} (hj : j ∈ vs) (P : D → Bool) (f : D → D) (q : WpI π wi δ fun ds => ds.length ≤ 4000 ∧ (∀ d, d ∈ ds → WpT π tt ((wipeD δ vs).set j (.d d)) fun b => b = P d) ∧
      (∀ d, d ∈ ds → P d = true → Wp π te ((wipeD δ vs).set j (.d d)) fun r => r.fz = some (f d)) ∧ k (.new (.lst ((ds.filter P).map f)))) : Wp π (tLc wi (gName j) tt te vs) δ k := by
  refine w_lc (gn_name hj) ?_
  intro X H σ R o e h
  refine q X H σ R o e fun J H' ds k1 it w => h J H' ds k1 it ?_
  obtain ⟨hl, test, turn, fin⟩ := w
  refine ⟨fun i acc => acc = ((ds.take i).filter P).map f, rfl, fun i d acc hd hI => ?_, fun acc hI => by rw [hI, List.take_length]; exact fin⟩
  have hm := List.mem_of_getElem? hd
  have ht : ds.take (i + 1) = ds.take i ++ [d] := by rw [List.take_add_one, hd]; rfl
  have hlen : acc.length ≤ i := by
    rw [hI, List.length_map]
    exact Nat.le_trans (List.length_filter_le _ _) (by rw [List.length_take]; omega)
  have hlt := (List.getElem?_eq_some_iff.mp hd).1
  refine we_name ((test d hm).imp fun b hb => ?_)
  subst hb
  refine ite_b (fun hp => ?_) fun hp => ?_
  · refine (turn d hm hp).imp fun r hr => ⟨f d, hr, by omega, ?_⟩
    show acc ++ [f d] = ((ds.take (i + 1)).filter P).map f
    rw [ht, List.filter_append, List.map_append, ← hI, List.filter_cons, if_pos hp]
    rfl
  · show acc = ((ds.take (i + 1)).filter P).map f
    rw [ht, List.filter_append, List.map_append, ← hI, List.filter_cons, if_neg (by rw [hp]; exact Bool.false_ne_true)]
    simp
end
end Dt
namespace Dt
open PySem PySem.Spec PyProof.Rows L2 Ly
section
variable {κ : Type} [DecidableEq κ]
def valD (kd : List (κ × D)) (k : κ) : Option D := (kd.find? fun p => decide (p.1 = k)).map (·.2)
def putD (kd : List (κ × D)) (k : κ) (d : D) : List (κ × D) := if (kd.any fun p => decide (p.1 = k)) = true then kd.map (fun p => if p.1 = k then (p.1, d) else p) else kd ++ [(k, d)]
theorem val_at {H : Hp} {k : κ} : ∀ {kv : List (κ × V)} {kd : List (κ × D)}, kv.map (·.1) = kd.map (·.1) → Ats H (kv.map (·.2)) (kd.map (·.2)) → (∀ d, valD kd k = some d → ∃ v, valV kv k = some v ∧ At H v d) ∧ (valD kd k = none → valV kv k = none)
  | [], [], _, _ => ⟨fun d h => (by cases h), fun _ => rfl⟩
  | [], _ :: _, h, _ => by cases h
  | _ :: _, [], h, _ => by cases h
  | (a, v) :: kv, (b, c) :: kd, h, t => by
    simp only [List.map_cons, List.cons.injEq] at h
    obtain ⟨e, h⟩ := h
    have e : a = b := e
    subst e
    cases t with
    | cons a1 t =>
      by_cases hk : a = k
      · have e1 : valD ((a, c) :: kd) k = some c := by simp [valD, List.find?_cons, hk]
        rw [e1, valV_pos (p := (a, v)) hk]
        exact ⟨fun d h => ⟨v, rfl, by cases h; exact a1⟩, fun h => by cases h⟩
      · have e1 : valD ((a, c) :: kd) k = valD kd k := by simp [valD, List.find?_cons, hk]
        rw [e1, valV_neg (p := (a, v)) hk]
        exact val_at h t
theorem any_at {k : κ} : ∀ {kv : List (κ × V)} {kd : List (κ × D)}, kv.map (·.1) = kd.map (·.1) → (kv.any fun p => decide (p.1 = k)) = (kd.any fun p => decide (p.1 = k))
  | [], [], _ => rfl
  | [], _ :: _, h => by cases h
  | _ :: _, [], h => by cases h
  | (a, v) :: kv, (b, c) :: kd, h => by
    simp only [List.map_cons, List.cons.injEq] at h
    obtain ⟨e, h⟩ := h
    have e : a = b := e
    subst e
    rw [List.any_cons, List.any_cons, any_at h]
theorem put_map {H : Hp} {k : κ} {v : V} {d : D} (hv : At H v d) : ∀ {kv : List (κ × V)} {kd : List (κ × D)}, kv.map (·.1) = kd.map (·.1) → Ats H (kv.map (·.2)) (kd.map (·.2)) →
    (kv.map fun p => if p.1 = k then (p.1, v) else p).map (·.1) = (kd.map fun p => if p.1 = k then (p.1, d) else p).map (·.1) ∧ Ats H ((kv.map fun p => if p.1 = k then (p.1, v) else p).map (·.2)) ((kd.map fun p => if p.1 = k then (p.1, d) else p).map (·.2))
  | [], [], _, _ => ⟨rfl, .nil⟩
  | [], _ :: _, h, _ => by cases h
  | _ :: _, [], h, _ => by cases h
  | (a, w) :: kv, (b, c) :: kd, h, t => by
    simp only [List.map_cons, List.cons.injEq] at h
    obtain ⟨e, h⟩ := h
    have e : a = b := e
    subst e
    cases t with
    | cons a1 t =>
      obtain ⟨z1, z2⟩ := put_map hv h t
      simp only [List.map_cons]
      by_cases hk : a = k
      · rw [if_pos hk, if_pos hk]
        exact ⟨by rw [z1], .cons hv z2⟩
      · rw [if_neg hk, if_neg hk]
        exact ⟨by rw [z1], .cons a1 z2⟩
theorem put_at {H : Hp} {k : κ} {v : V} {d : D} {kv : List (κ × V)} {kd : List (κ × D)} (hv : At H v d) (h : kv.map (·.1) = kd.map (·.1)) (t : Ats H (kv.map (·.2)) (kd.map (·.2))) :
    (putK kv k v).map (·.1) = (putD kd k d).map (·.1) ∧ Ats H ((putK kv k v).map (·.2)) ((putD kd k d).map (·.2)) := by
  unfold putK putD
  rw [any_at (k := k) h]
  split
  · exact put_map hv h t
  · rw [List.map_append, List.map_append, List.map_append, List.map_append, h]
    exact ⟨rfl, t.append (.cons hv .nil)⟩
end
def keyD : D → Option Key
  | .int i => some (.inl i)
  | .str s => some (.inr s)
  | _ => none
def dKey : Key → D
  | .inl i => .int i
  | .inr s => .str s
theorem at_key {H : Hp} : ∀ k : Key, At H (kV k) (dKey k)
  | .inl i => .int i
  | .inr s => .str s
theorem keyD_at {H : Hp} {v : V} {d : D} {k : Key} (a : At H v d) (h : keyD d = some k) : v = kV k := by
  cases a <;> first | (cases h; rfl) | (cases h; done)
section
variable {π : Po} {δ : List Rv} {k : Rv → Prop} {ta tb te td ty : TE} {t : TA} {K : PySem.W.Frag}
/-- d[y] -/
def Get (r s : Rv) (k : Rv → Prop) : Prop := ∃ kd x y d, r.kd = some kd ∧ s = .d x ∧ keyD x = some y ∧ valD kd y = some d ∧ k (.d d)
theorem w_dget (q : Wp π td δ fun r => Wp π ty δ fun s => Get r s k) : Wp π (tDGet td ty) δ k := fun X H σ Q o e h => by
  refine q X H σ _ o e fun x r H1 k1 a w => ?_
  have o1 := o.keep k1
  refine w X H1 σ _ o1 (e.keep o k1) fun y s H2 k2 a2 w2 => ?_
  obtain ⟨kd, x2, y2, d, hr, rfl, hy, hd, kk⟩ := w2
  obtain ⟨p, kv, rfl, hp, e1, t1⟩ := (a.keep o1 k1 o k2).kd hr
  obtain ⟨v, hv, av⟩ := (val_at e1 t1).1 d hd
  exact ⟨p, v, rfl, .inl ⟨kv, y2, hp, keyD_at a2 hy, hv.symm⟩, h v (.d d) H2 (k1.trans k2) av kk⟩
/-- y in d -/
theorem w_din (q : Wp π ty δ fun s => Wp π td δ fun r => ∃ kd x y, r.kd = some kd ∧ s = .d x ∧ keyD x = some y ∧ k (.d (.bl (valD kd y).isSome))) : Wp π (tDIn ty td) δ k := fun X H σ Q o e h => by
  refine q X H σ _ o e fun x r H1 k1 a w => ?_
  have o1 := o.keep k1
  refine w X H1 σ _ o1 (e.keep o k1) fun y s H2 k2 a2 w2 => ?_
  obtain ⟨kd, x2, y2, hr, rfl, hy, kk⟩ := w2
  obtain ⟨p, kv, rfl, hp, e1, t1⟩ := a2.kd hr
  have ey := keyD_at (a.keep o1 k1 o k2) hy
  obtain ⟨z1, z2⟩ := val_at (k := y2) e1 t1
  refine ⟨p, valV kv y2, rfl, .inl ⟨kv, y2, hp, ey, rfl⟩, ?_⟩
  have eb : (valV kv y2).isSome = (valD kd y2).isSome := by
    cases hd : valD kd y2 with
    | none => rw [z2 hd]; rfl
    | some d => obtain ⟨v, hv, _⟩ := z1 d hd; rw [hv]; rfl
  rw [eb]
  exact h _ (.d (.bl _)) H2 (k1.trans k2) (At.bl _) kk
theorem w_dni (q : Wp π ty δ fun s => Wp π td δ fun r => ∃ kd x y, r.kd = some kd ∧ s = .d x ∧ keyD x = some y ∧ k (.d (.bl (!(valD kd y).isSome)))) : Wp π (tDNotIn ty td) δ k := fun X H σ Q o e h => by
  refine q X H σ _ o e fun x r H1 k1 a w => ?_
  have o1 := o.keep k1
  refine w X H1 σ _ o1 (e.keep o k1) fun y s H2 k2 a2 w2 => ?_
  obtain ⟨kd, x2, y2, hr, rfl, hy, kk⟩ := w2
  obtain ⟨p, kv, rfl, hp, e1, t1⟩ := a2.kd hr
  have ey := keyD_at (a.keep o1 k1 o k2) hy
  obtain ⟨z1, z2⟩ := val_at (k := y2) e1 t1
  refine ⟨p, valV kv y2, rfl, .inl ⟨kv, y2, hp, ey, rfl⟩, ?_⟩
  have eb : (valV kv y2).isSome = (valD kd y2).isSome := by
    cases hd : valD kd y2 with
    | none => rw [z2 hd]; rfl
    | some d => obtain ⟨v, hv, _⟩ := z1 d hd; rw [hv]; rfl
  rw [eb]
  exact h _ (.d (.bl _)) H2 (k1.trans k2) (At.bl _) kk
/-- {} -/
theorem w_dnewK (q : k (.new (.dct []))) : Wp π tDNewK δ k := fun X H σ Q o e h p hp => by
  exact h (.ref p) (.new (.dct [])) _ (o.kp.add o hp) (new_at o hp ⟨[], upd_same, rfl, .nil⟩ o.kp o) q
end
def tLockO (t : TE) : TE := fun σ H Q => tLockE t σ H Q ∨ t σ H Q
theorem pe_lockO {X : Cx} {e : Expr} {t : TE} (h : PE X e t) : PE X e (tLockO t) := ⟨fun pins s σ H Q I hw => hw.elim ((pe_lock h).run pins s σ H Q I) (h.run pins s σ H Q I)⟩
def tLockOS (t : TS) : TS := fun D σ H => tLock t D σ H ∨ t D σ H
theorem ps_lockO {X : Cx} {st : Stmt} {t : TS} (h : PS X st t) : PS X st (tLockOS t) := ⟨fun pins s σ H D I hw => hw.elim ((ps_lock h).run pins s σ H D I) (h.run pins s σ H D I)⟩
theorem Mo.lock {H : Hp} {p : Addr} {kv : List (Key × V)} {od : Obj} (h : H p = some (.dK kv)) : Mo H (L2.upd H p (.frz od (.dK kv))) := by
  refine ⟨fun a o e n1 n2 n3 => ?_, fun a kv' e => ?_, fun a kv' e => ?_⟩
  · rw [upd_ne (fun z => by rw [z, h] at e; cases e; exact n1 kv rfl)]
    exact e
  · by_cases hp : a = p
    · subst hp
      rcases e with e | ⟨u, e⟩ <;> (rw [h] at e; cases e)
      exact .inr ⟨od, upd_same⟩
    · rcases e with e | ⟨u, e⟩
      · exact .inl (by rw [upd_ne hp]; exact e)
      · exact .inr ⟨u, by rw [upd_ne hp]; exact e⟩
  · have hp : a ≠ p := fun z => by
      subst z
      rcases e with e | ⟨u, e⟩ <;> (rw [h] at e; cases e)
    rcases e with e | ⟨u, e⟩
    · exact .inl (by rw [upd_ne hp]; exact e)
    · exact .inr ⟨u, by rw [upd_ne hp]; exact e⟩
theorem Mo.unlock {H : Hp} {p : Addr} {kv : List (Key × V)} {od : Obj} (h : H p = some (.frz od (.dK kv))) : Mo H (L2.upd H p (.dK kv)) := by
  refine ⟨fun a o e n1 n2 n3 => ?_, fun a kv' e => ?_, fun a kv' e => ?_⟩
  · rw [upd_ne (fun z => by rw [z, h] at e; cases e; exact n3 _ _ rfl)]
    exact e
  · by_cases hp : a = p
    · subst hp
      rcases e with e | ⟨u, e⟩ <;> (rw [h] at e; cases e)
      exact .inl upd_same
    · rcases e with e | ⟨u, e⟩
      · exact .inl (by rw [upd_ne hp]; exact e)
      · exact .inr ⟨u, by rw [upd_ne hp]; exact e⟩
  · have hp : a ≠ p := fun z => by
      subst z
      rcases e with e | ⟨u, e⟩ <;> (rw [h] at e; cases e)
    rcases e with e | ⟨u, e⟩
    · exact .inl (by rw [upd_ne hp]; exact e)
    · exact .inr ⟨u, by rw [upd_ne hp]; exact e⟩
theorem cut_upd {X : Xs} {H : Hp} {p : Addr} {o : HO} (n : ¬ X p) : cut X (L2.upd H p o) = L2.upd (cut X H) p o := by
  funext a
  unfold cut
  by_cases x : X a
  · rw [if_pos x, upd_ne (fun z => n (by rw [← z]; exact x)), if_pos x]
  · rw [if_neg x]
    by_cases hp : a = p
    · subst hp; rw [upd_same, upd_same]
    · rw [upd_ne hp, upd_ne hp, if_neg x]
theorem cut_lock {X : Xs} {H : Hp} {p : Addr} {kv : List (Key × V)} {od : Obj} (n : ¬ X p) (h : H p = some (.dK kv)) : Mo (cut X H) (cut X (L2.upd H p (.frz od (.dK kv)))) := by
  rw [cut_upd n]
  exact Mo.lock (cut_of n h)
theorem cut_unlock {X : Xs} {H : Hp} {p : Addr} {kv : List (Key × V)} {od : Obj} (n : ¬ X p) (h : H p = some (.frz od (.dK kv))) : Mo (cut X H) (cut X (L2.upd H p (.dK kv))) := by
  rw [cut_upd n]
  exact Mo.unlock (cut_of n h)
/-- the names told at a heap that is the same for what they hold -/
theorem SAt.like {π : Po} {X : Xs} {H H' : Hp} {r : Rv} {o : Option V} (m : Mo (cut X H) (cut X H')) (hx : ∀ q, X q → H' q = H q) (a : SAt π X H r o) : SAt π X H' r o := by
  cases r with
  | un => trivial
  | d x => obtain ⟨v, e, a⟩ := a; exact ⟨v, e, a.mono m⟩
  | own q x => obtain ⟨v, e, e2, xq, nq, t⟩ := a; exact ⟨v, e, e2, xq, nq, t.keep (fun o h => by rw [hx q xq]; exact h) m⟩
  | new x => obtain ⟨v, e, q, e2, nq, t⟩ := a; exact absurd nq t.some
  | pot => exact a
  | raw w => exact a
theorem Ev.like {π : Po} {X : Xs} {H H' : Hp} {σ : L2.St} {δ : List Rv} (m : Mo (cut X H) (cut X H')) (hx : ∀ q, X q → H' q = H q) (e : Ev π X H σ δ) : Ev π X H' σ δ := ⟨e.len, fun i r o h1 h2 => (e.at_ i r o h1 h2).like m hx, e.nd⟩
theorem Ok.like {π : Po} {X : Xs} {H H' : Hp} (hx : ∀ q, X q → H' q = H q) (o : Ok π X H) : Ok π X H' := ⟨fun p x => by rw [hx p x]; exact o.dom p x, fun q e => by
  obtain ⟨x, a, b, h, g⟩ := o.pot q e
  exact ⟨x, a, b, by rw [hx q x]; exact h, g⟩⟩
/-- what comes back from a walk over a locked dict -/
theorem unlocked {π : Po} {X : Xs} {H H' : Hp} {p : Addr} {kv : List (Key × V)} {od : Obj} {r : Rv} {v : V} (ok : Ok π X H) (hp : H p = some (.dK kv)) (nX : ¬ X p) (k : Kp π (L2.upd H p (.frz od (.dK kv))) H') (a : RAt π X (L2.upd H p (.frz od (.dK kv))) H' r v) :
    H' p = some (.frz od (.dK kv)) ∧ Kp π H (L2.upd H' p (.dK kv)) ∧ RAt π X H (L2.upd H' p (.dK kv)) r v := by
  have np : π ≠ some p := fun z => nX (ok.pot p z).1
  have h1 := k.keep p _ np upd_same
  have m := cut_unlock (X := X) nX h1
  refine ⟨h1, ⟨fun a u n e => ?_, fun q e => ?_⟩, ?_⟩
  · by_cases ha : a = p
    · subst ha
      rw [upd_same, ← hp]
      exact e
    · rw [upd_ne ha]
      exact k.keep a u n (by rw [upd_ne ha]; exact e)
  · obtain ⟨x, y, h, g⟩ := k.pot q e
    exact ⟨x, y, by rw [upd_ne (fun z => np (by rw [e, z]))]; exact h, g⟩
  · cases r with
    | un => trivial
    | d x => exact At.mono m a
    | own q x =>
      obtain ⟨e, xq, nq, t⟩ := a
      exact ⟨e, xq, nq, t.keep (fun o h => by rw [upd_ne (fun z => nX (by rw [← z]; exact xq))]; exact h) m⟩
    | new x =>
      obtain ⟨q, e, n, t⟩ := a
      have hq : q ≠ p := fun z => by subst z; rw [upd_same] at n; cases n
      have m2 := cut_unlock (X := plus X q) (fun z => z.elim nX fun z => hq z.symm) h1
      exact ⟨q, e, by rw [upd_ne hq] at n; exact n, t.keep (fun o h => by rw [upd_ne hq]; exact h) m2⟩
    | pot => exact a
    | raw w => exact a
/-- a reading that only looks -/
def Std (π : Po) (td : TE) (δ : List Rv) (x : D) : Prop := ∀ (X : Xs) (H : Hp) (σ : L2.St), Ok π X H → Ev π X H σ δ → ∃ v, At (cut X H) v x ∧ ∀ H2, Mo (cut X H) (cut X H2) → ∀ Q : VK, Q v H2 → td σ H2 Q
theorem std_var {π : Po} {δ : List Rv} {n : Nat} {x : D} (h : δ[n]? = some (.d x)) : Std π (tVar n) δ x := fun X H σ o e => by
  obtain ⟨v, e1, e2⟩ := e.get h (fun z => by cases z)
  exact ⟨v, e2, fun H2 _ Q q => ⟨v, e1, q⟩⟩
theorem std_fld {π : Po} {δ : List Rv} {td : TE} {K : PySem.W.Frag} {f : Str} {C : Addr} {fd : List (Str × D)} {x : D} (s : Std π td δ (.obj C fd)) (c : Cls K C) (n : NoAttr K C f) (l : fd.lookup f = some x) : Std π (tFld K td f) δ x := fun X H σ o e => by
  obtain ⟨v, a, g⟩ := s X H σ o e
  cases a with
  | obj h1 h2 t =>
    obtain ⟨w, hw, aw⟩ := lookup_at h2 t l
    exact ⟨w, aw, fun H2 m Q q => g H2 m _ ⟨_, C, _, _, w, rfl, (of_cut (m.one _ _ h1 (fun _ z => by cases z) (fun _ z => by cases z) (fun _ _ z => by cases z))).2, c, n, hw, q⟩⟩
theorem std_dget {π : Po} {δ : List Rv} {td : TE} {s : Str} {kd : List (Key × D)} {x : D} (h : Std π td δ (.dct kd)) (l : valD kd (.inr s) = some x) : Std π (tDGet td (tC (.str s))) δ x := fun X H σ o e => by
  obtain ⟨v, a, g⟩ := h X H σ o e
  cases a with
  | dct h1 h2 t =>
    obtain ⟨w, hw, aw⟩ := (val_at h2 t).1 x l
    exact ⟨w, aw, fun H2 m Q q => g H2 m _ ⟨_, w, rfl, .inl ⟨_, .inr s, rd_cut (m.dK _ _ h1), rfl, hw.symm⟩, q⟩⟩
/-- an iterator over a locked dict: keys, values or pairs -/
structure DIt (π : Po) (wi : TE → TI) (f : List (Key × D) → List D) : Prop where
  ex : ∃ mk : Addr → Obj → List (Key × V) → L2.It, (∀ (td : TE) (σ : L2.St) (H : Hp) (p : Addr) (od : Obj) (kv : List (Key × V)) (R : L2.It → Hp → Prop), (∀ Q : VK, Q (.ref p) H → td σ H Q) → H p = some (.frz od (.dK kv)) → R (mk p od kv) H → wi td σ H R) ∧
    ∀ (X : Xs) (H : Hp) (p : Addr) (od : Obj) (kv : List (Key × V)) (kd : List (Key × D)), ¬ X p → H p = some (.frz od (.dK kv)) → kv.map (·.1) = kd.map (·.1) → Ats (cut X H) (kv.map (·.2)) (kd.map (·.2)) → Itw π (mk p od kv) X H (fun H' => H' p = some (.frz od (.dK kv))) (f kd)
theorem kd_get {kv : List (Key × V)} {kd : List (Key × D)} (h : kv.map (·.1) = kd.map (·.1)) {i : Nat} {k : Key} {v : V} (e : kv[i]? = some (k, v)) : ∃ d, kd[i]? = some (k, d) := by
  have h1 : (kv.map (·.1))[i]? = some k := by rw [List.getElem?_map, e]; rfl
  rw [h, List.getElem?_map] at h1
  cases hd : kd[i]? with
  | none => rw [hd] at h1; cases h1
  | some x =>
    obtain ⟨a, d⟩ := x
    rw [hd] at h1
    cases h1
    exact ⟨d, rfl⟩
theorem dit_keys {π : Po} : DIt π iKeys fun kd => kd.map fun p => dKey p.1 := by
  refine ⟨Itk, fun td σ H p od kv R ht hp r => ht _ ⟨p, od, rfl, .inl ⟨kv, hp, r⟩⟩, fun X H p od kv kd nX hp e t => ?_⟩
  have hl : kv.length = kd.length := by simpa using congrArg List.length e
  refine ⟨fun i X' H' f z hi => ?_, fun i X' H' f z hi => ?_⟩
  · rw [List.length_map] at hi
    refine ⟨⟨z, by omega⟩, fun x H'' y ok => ?_⟩
    obtain ⟨rfl, k, v, hk, rfl⟩ := y
    obtain ⟨d, hd⟩ := kd_get e hk
    exact ⟨ok.kp, dKey k, by rw [List.getElem?_map, hd]; rfl, at_key k⟩
  · rw [List.length_map] at hi
    exact ⟨z, by omega⟩
theorem dit_vals {π : Po} : DIt π iVals fun kd => kd.map (·.2) := by
  refine ⟨Itd, fun td σ H p od kv R ht hp r => ht _ ⟨p, od, kv, rfl, hp, r⟩, fun X H p od kv kd nX hp e t => ?_⟩
  have hl : kv.length = kd.length := by simpa using congrArg List.length e
  refine ⟨fun i X' H' f z hi => ?_, fun i X' H' f z hi => ?_⟩
  · rw [List.length_map] at hi
    refine ⟨⟨z, by omega⟩, fun x H'' y ok => ?_⟩
    obtain ⟨rfl, k, hk⟩ := y
    obtain ⟨d, hd, ad⟩ := (t.mono f.mo).got (i := i) (v := x) (by rw [List.getElem?_map, hk]; rfl)
    exact ⟨ok.kp, d, hd, ad⟩
  · rw [List.length_map] at hi
    exact ⟨z, by omega⟩
theorem dit_items {π : Po} : DIt π iItems fun kd => kd.map fun p => .tup [dKey p.1, p.2] := by
  refine ⟨Iti, fun td σ H p od kv R ht hp r => ht _ ⟨p, od, kv, rfl, hp, r⟩, fun X H p od kv kd nX hp e t => ?_⟩
  have hl : kv.length = kd.length := by simpa using congrArg List.length e
  refine ⟨fun i X' H' f z hi => ?_, fun i X' H' f z hi => ?_⟩
  · rw [List.length_map] at hi
    refine ⟨⟨z, by omega⟩, fun x H'' y ok => ?_⟩
    obtain ⟨T, k, v, hk, rfl, nT, rfl⟩ := y
    obtain ⟨d, hd⟩ := kd_get e hk
    obtain ⟨d', hd', ad⟩ := (t.mono f.mo).got (i := i) (v := v) (by rw [List.getElem?_map, hk]; rfl)
    have ed : d' = d := by rw [List.getElem?_map, hd] at hd'; exact (Option.some.inj hd').symm
    subst ed
    refine ⟨ok.kp.add ok nT, .tup [dKey k, d'], by rw [List.getElem?_map, hd]; rfl, ?_⟩
    exact At.tup (cut_of (fun z => ok.dom T z nT) upd_same) (.cons (at_key k) (.cons (ad.mono (up_mo' nT)) .nil))
  · rw [List.length_map] at hi
    exact ⟨z, by omega⟩
section
variable {π : Po} {δ : List Rv} {k : Rv → Prop} {wi : TE → TI} {f : List (Key × D) → List D} {g : TG} {tt : TT} {te td : TE} {vs : List Nat}
/-- a comprehension over a dict -/
theorem w_lcD {kd : List (Key × D)} (it : DIt π wi f) (hg : GN g vs) (s : Std π td δ (.dct kd)) (w : LcK π g tt te vs k δ (f kd)) : Wp π (tLockO (tLc (wi td) g tt te vs)) δ k := fun X H σ Q o e h => by
  obtain ⟨v, a, gs⟩ := s X H σ o e
  obtain ⟨mk, hwi, hit⟩ := it.ex
  cases a with
  | @dct p kv _ hr e1 t1 =>
    rcases hr with hr | ⟨od, hr⟩
    · obtain ⟨nX, hp⟩ := of_cut hr
      refine .inl ⟨p, .dK kv, hp, trivial, fun od => ?_⟩
      have m := cut_lock (X := X) (od := od) nX hp
      have hx : ∀ q, X q → L2.upd H p (.frz od (.dK kv)) q = H q := fun q x => upd_ne fun z => nX (by rw [← z]; exact x)
      have o2 := o.like hx
      show wi td σ (L2.upd H p (.frz od (.dK kv))) (fun J H1 => rLc J g tt te vs σ H1 (fun v H' => H' p = some (.frz od (.dK kv)) ∧ Q v (L2.upd H' p (.dK kv))))
      refine hwi td σ _ p od kv _ (fun Q q => gs _ m Q q) upd_same ?_
      have np : π ≠ some p := fun z => nX (o.pot p z).1
      exact lc_at hg o2 (e.like m hx) o2.kp (hit X _ p od kv kd nX upd_same e1 (t1.mono m)) (fun H' k' => k'.keep p _ np upd_same) w fun v r H' k1 ra kr => by
        obtain ⟨h1, h2, h3⟩ := unlocked o hp nX k1 ra
        exact ⟨h1, h v r _ h2 h3 kr⟩
    · obtain ⟨nX, hp⟩ := of_cut hr
      have np : π ≠ some p := fun z => nX (o.pot p z).1
      refine .inr ?_
      show wi td σ H (fun J H1 => rLc J g tt te vs σ H1 Q)
      refine hwi td σ H p od kv _ (fun Q q => gs H (Mo.refl _) Q q) hp ?_
      exact lc_at hg o e o.kp (hit X H p od kv kd nX hp e1 t1) (fun H' k' => k'.keep p _ np hp) w h
end
end Dt
namespace Dt
open PySem PySem.Spec PyProof.Rows L2 Ly
end Dt
namespace Ly
open PySem PySem.Spec PyProof.Rows L2
end Ly
namespace Ly
open PySem PySem.Spec PyProof.Rows L2
/-- at a: an exception of class C with these fields -/
def ExAt (H : Hp) (a C : Addr) (fs : List (Str × V)) : Prop := (fs = [] ∧ H a = some (exo a C none)) ∨ ∃ d, H a = some (exo a C (some d)) ∧ H d = some (exd d fs)
end Ly
namespace Ly
open PySem PySem.Spec PyProof.Rows L2
section
variable {σ : L2.St} {H H' : Hp} {Q : VK} {K : PySem.W.Frag} {v x y : V} {ta tb te : TE} {t u tk : TA} {D : Ends} {C a : Addr} {f : Str} {sp : Sp} {fs : List (Str × V)} {b : Bool}
theorem ExAt.same (s : Same H H') (e : ExAt H a C fs) : ExAt H' a C fs := by
  rcases e with ⟨z, e⟩ | ⟨d, e1, e2⟩
  · exact .inl ⟨z, s _ _ e⟩
  · exact .inr ⟨d, s _ _ e1, s _ _ e2⟩
end
def rTupOf (K : PySem.W.Frag) : List V → Hp → VK → Prop := fun xs H Q => ∃ p ys, xs = [.ref p] ∧ ((SqL K H p ys ∧ ∀ l, H l = none → Q (.ref l) (upd H l (.tup ys))) ∨ (SqT K H p ys ∧ Q (.ref p) H))
theorem call_tupleU {X : Cx} : CallR X (.type "tuple") (rTupOf X.K) := call_tuple_of
end Ly
namespace Dt
open PySem PySem.Spec PyProof.Rows L2 Ly
theorem ats_strs {H : Hp} : ∀ {ss : List Str} {vs : List V}, Ats H vs (ss.map D.str) → vs = ss.map V.str
  | [], _, a => by cases a; rfl
  | s :: ss, _, a => by cases a with | cons a t => cases a; rw [ats_strs t]; rfl
theorem ats_ints {H : Hp} : ∀ {ss : List Int} {vs : List V}, Ats H vs (ss.map D.int) → vs = ss.map V.int
  | [], _, a => by cases a; rfl
  | s :: ss, _, a => by cases a with | cons a t => cases a; rw [ats_ints t]; rfl
theorem ats_bls {H : Hp} : ∀ {ss : List Bool} {vs : List V}, Ats H vs (ss.map D.bl) → vs = ss.map V.bl
  | [], _, a => by cases a; rfl
  | s :: ss, _, a => by cases a with | cons a t => cases a; rw [ats_bls t]; rfl
theorem strs_at {H : Hp} : ∀ ss : List Str, Ats H (ss.map V.str) (ss.map D.str)
  | [] => .nil
  | s :: ss => .cons (.str s) (strs_at ss)
theorem keys_at {H : Hp} : ∀ ks : List Key, Ats H (ks.map kV) (ks.map dKey)
  | [] => .nil
  | k :: ks => .cons (at_key k) (keys_at ks)
theorem inV_strs {s : Str} : ∀ ss : List Str, inV (V.str s) (ss.map V.str) = decide (s ∈ ss)
  | [] => rfl
  | t :: ss => by
    have e : eqV (V.str t) (V.str s) = decide (t = s) := by
      by_cases h : t = s
      · subst h; rw [decide_eq_true rfl]; simp [eqV]
      · rw [decide_eq_false h]; simp [eqV, h]
    show (eqV (V.str t) (V.str s) || inV (V.str s) (ss.map V.str)) = _
    rw [inV_strs ss, e, Bool.eq_iff_iff, Bool.or_eq_true, decide_eq_true_eq, decide_eq_true_eq, decide_eq_true_eq, List.mem_cons]
    exact ⟨fun h => h.elim (fun h => .inl h.symm) .inr, fun h => h.elim (fun h => .inl h.symm) .inr⟩
section
variable {π : Po} {δ : List Rv} {k : Rv → Prop} {ta tb te td ty tv : TE} {t : TA} {K : PySem.W.Frag}
theorem wcb_sum {a : Rv} {ns : List Int} (hl : a.li = some (ns.map D.int)) (q : k (.d (.int ns.sum))) : WCb π (rSum K) [a] k := fun X H0 H xs Q o0 o k0 ra h => by
  match xs, ra with
  | [x], ⟨ra, _⟩ =>
    obtain ⟨p, vs, rfl, e, t⟩ := ra.li hl
    have z := ats_ints t
    subst z
    exact ⟨p, ns, rfl, SqL.of e, h _ (.d (.int ns.sum)) H o.kp (At.int _) q⟩
theorem wcb_all {a : Rv} {bs : List Bool} (hl : a.li = some (bs.map D.bl)) (q : k (.d (.bl (bs.all id)))) : WCb π (rAll K) [a] k := fun X H0 H xs Q o0 o k0 ra h => by
  match xs, ra with
  | [x], ⟨ra, _⟩ =>
    obtain ⟨p, vs, rfl, e, t⟩ := ra.li hl
    have z := ats_bls t
    subst z
    exact ⟨p, bs, rfl, SqL.of e, h _ (.d (.bl (bs.all id))) H o.kp (At.bl _) q⟩
/-- a new list, as a result -/
theorem new_lst {X : Xs} {H0 H : Hp} {Q : VK} {vs : List V} {ds : List D} (o : Ok π X H) (k0 : Kp π H0 H) (o0 : Ok π X H0) (a : Ats (cut X H) vs ds) (h : ∀ v z H', Kp π H H' → RAt π X H0 H' z v → k z → Q v H') (q : k (.new (.lst ds))) (p : Addr) (hp : H p = none) : Q (.ref p) (L2.upd H p (.lst vs)) :=
  h (.ref p) (.new (.lst ds)) _ (o.kp.add o hp) (new_at o hp ⟨vs, upd_same, a.mono (up_mo hp)⟩ k0 o0) q
theorem new_tup {X : Xs} {H0 H : Hp} {Q : VK} {vs : List V} {ds : List D} (o : Ok π X H) (a : Ats (cut X H) vs ds) (h : ∀ v z H', Kp π H H' → RAt π X H0 H' z v → k z → Q v H') (q : k (.d (.tup ds))) (p : Addr) (hp : H p = none) : Q (.ref p) (L2.upd H p (.tup vs)) := by
  refine h (.ref p) (.d (.tup ds)) _ (o.kp.add o hp) ?_ q
  exact At.tup (cut_of (fun z => o.dom p z hp) upd_same) (a.mono (up_mo' hp))
theorem wcb_sortedS {a : Rv} {ss : List Str} (hl : a.li = some (ss.map D.str)) (h64 : ss.length < 64) (q : ∀ ys : List Str, ys.Perm ss → sortedS ys = true → k (.new (.lst (ys.map D.str)))) : WCb π (rSortedS K) [a] k := fun X H0 H xs Q o0 o k0 ra h => by
  match xs, ra with
  | [x], ⟨ra, _⟩ =>
    obtain ⟨p, vs, rfl, e, t⟩ := ra.li hl
    have z := ats_strs t
    subst z
    exact ⟨p, ss, rfl, SqL.of e, h64, fun ys p' pm so np => new_lst o k0 o0 (strs_at ys) h (q ys pm so) p' np⟩
theorem wcb_listOf {a : Rv} {ds : List D} (hl : a.li = some ds) (q : k (.new (.lst ds))) : WCb π (Ly.rListOf K) [a] k := fun X H0 H xs Q o0 o k0 ra h => by
  match xs, ra with
  | [x], ⟨ra, _⟩ =>
    obtain ⟨p, vs, rfl, e, t⟩ := ra.li hl
    exact ⟨p, vs, rfl, .inl (SqL.of e), fun l hl => new_lst o k0 o0 t h q l hl⟩
theorem wcb_listOfT {ds : List D} (q : k (.new (.lst ds))) : WCb π (Ly.rListOf K) [.d (.tup ds)] k := fun X H0 H xs Q o0 o k0 ra h => by
  match xs, ra with
  | [x], ⟨ra, _⟩ =>
    cases ra with
    | tup e t => exact ⟨_, _, rfl, .inr (SqT.of (of_cut e).2), fun l hl => new_lst o k0 o0 t h q l hl⟩
theorem wcb_tupOf {a : Rv} {ds : List D} (hl : a.li = some ds) (q : k (.d (.tup ds))) : WCb π (rTupOf K) [a] k := fun X H0 H xs Q o0 o k0 ra h => by
  match xs, ra with
  | [x], ⟨ra, _⟩ =>
    obtain ⟨p, vs, rfl, e, t⟩ := ra.li hl
    exact ⟨p, vs, rfl, .inl ⟨SqL.of e, fun l hl => new_tup o t h q l hl⟩⟩
theorem wcb_gcd {i j : Int} (q : k (.d (.int (Int.gcd i j : Nat)))) : WCb π rGcd [.d (.int i), .d (.int j)] k := fun X H0 H xs Q o0 o k0 ra h => by
  match xs, ra with
  | [x, y], ⟨ra, rb, _⟩ =>
    cases ra; cases rb
    exact ⟨i, j, rfl, h _ (.d (.int (Int.gcd i j : Nat))) H o.kp (At.int _) q⟩
theorem wcb_abs {i : Int} (q : k (.d (.int (if i < 0 then -i else i)))) : WCb π Ly.rAbs [.d (.int i)] k := fun X H0 H xs Q o0 o k0 ra h => by
  match xs, ra with
  | [x], ⟨ra, _⟩ => cases ra; exact i_abs (h _ (.d (.int _)) H o.kp (At.int _) q)
theorem wcb_max2 {i j : Int} (q : k (.d (.int (if j > i then j else i)))) : WCb π Ly.rMax2 [.d (.int i), .d (.int j)] k := fun X H0 H xs Q o0 o k0 ra h => by
  match xs, ra with
  | [x, y], ⟨ra, rb, _⟩ => cases ra; cases rb; exact i_max2 (h _ (.d (.int _)) H o.kp (At.int _) q)
theorem wcb_min2 {i j : Int} (q : k (.d (.int (if j < i then j else i)))) : WCb π Ly.rMin2 [.d (.int i), .d (.int j)] k := fun X H0 H xs Q o0 o k0 ra h => by
  match xs, ra with
  | [x, y], ⟨ra, rb, _⟩ => cases ra; cases rb; exact i_min2 (h _ (.d (.int _)) H o.kp (At.int _) q)
theorem wcb_int {i : Int} (q : k (.d (.int i))) : WCb π rInt1 [.d (.int i)] k := fun X H0 H xs Q o0 o k0 ra h => by
  match xs, ra with
  | [x], ⟨ra, _⟩ => cases ra; exact i_int (h _ (.d (.int i)) H o.kp (At.int _) q)
def tyN : D → String
  | .int _ => "int"
  | .bl _ => "bool"
  | .non => "NoneType"
  | .str _ => "str"
  | .lst _ => "list"
  | .tup _ => "tuple"
  | .dct _ => "dict"
  | .dcT _ => "dict"
  | .obj _ _ => "object"
def isObj : D → Bool
  | .obj _ _ => true
  | .dcT _ => true
  | _ => false
theorem at_ty {X : Xs} {H : Hp} {v : V} {x : D} (a : At (cut X H) v x) (n : isObj x = false) : TyX K H v (.type (tyN x)) := by
  cases a with
  | int i => exact .base (.int i)
  | bl b => exact .base (.bl b)
  | non => exact .base .non
  | str s => exact .base (.str s)
  | lst e t => exact .base (.lst (of_cut e).2)
  | tup e t => exact .base (.tup (of_cut e).2)
  | dct e e2 t =>
    rcases e with e | ⟨od, e⟩
    · exact .base (.dK (of_cut e).2)
    · exact .fDict (of_cut e).2
  | dcT e e2 t => cases n
  | obj e e2 t => cases n
theorem wcb_isi {x : D} {n : String} {b : Bool} (ho : isObj x = false) (hb : kitB (tyN x) n = some b) (q : k (.d (.bl b))) : WCb π (rIsi K) [.d x, .raw (.ty n)] k := fun X H0 H xs Q o0 o k0 ra h => by
  match xs, ra with
  | [v, c], ⟨ra, rc, _⟩ =>
    have rc : c = .ty n := rc
    subst rc
    exact i_isi (at_ty ra ho) hb (h _ (.d (.bl b)) H o.kp (At.bl _) q)
/-- of an own class, a value of a built-in kind -/
theorem wcb_isiC {x : D} {C : Addr} (ho : isObj x = false) (hb : PySem.W.kitOne K (.type (tyN x)) (.ref C) = some false) (q : k (.d (.bl false))) : WCb π (rIsi K) [.d x, .raw (.ref C)] k := fun X H0 H xs Q o0 o k0 ra h => by
  match xs, ra with
  | [v, c], ⟨ra, rc, _⟩ =>
    have rc : c = .ref C := rc
    subst rc
    exact i_isiO (at_ty ra ho) hb (h _ (.d (.bl false)) H o.kp (At.bl _) q)
/-- .. an object of the class -/
theorem wcb_isiO {mg : Str → Option Value} {n : Str} {C : Addr} {fd : List (Str × D)} (c : OwnC K mg n C) (q : k (.d (.bl true))) : WCb π (rIsi K) [.d (.obj C fd), .raw (.ref C)] k := fun X H0 H xs Q o0 o k0 ra h => by
  match xs, ra with
  | [v, cc], ⟨ra, rc, _⟩ =>
    have rc : cc = .ref C := rc
    subst rc
    cases ra with
    | obj e e2 t => exact i_isiO (b := true) (.base (.ins (of_cut e).2 c.cls c.cl (by with_unfolding_all rfl) (by with_unfolding_all rfl) c.mo)) c.kO (h _ (.d (.bl true)) H o.kp (At.bl _) q)
theorem wop_eqI {i j : Int} (q : k (.d (.bl (decide (i = j))))) : WOp π (rEqU K) (.d (.int i)) (.d (.int j)) k := fun X H0 H x y Q o0 o k0 ra rb h => by
  cases ra; cases rb
  refine i_eq_s rfl ?_
  rw [show decide (V.int i = V.int j) = decide (i = j) by simp]
  exact h _ (.d (.bl _)) H o.kp (At.bl _) q
theorem wop_neI {i j : Int} (q : k (.d (.bl (!decide (i = j))))) : WOp π (rNeU K) (.d (.int i)) (.d (.int j)) k := fun X H0 H x y Q o0 o k0 ra rb h => by
  cases ra; cases rb
  refine i_ne_s rfl ?_
  rw [show decide (V.int i = V.int j) = decide (i = j) by simp]
  exact h _ (.d (.bl _)) H o.kp (At.bl _) q
theorem wop_eqS {i j : Str} (q : k (.d (.bl (decide (i = j))))) : WOp π (rEqU K) (.d (.str i)) (.d (.str j)) k := fun X H0 H x y Q o0 o k0 ra rb h => by
  cases ra; cases rb
  refine i_eq_s rfl ?_
  rw [show decide (V.str i = V.str j) = decide (i = j) by simp]
  exact h _ (.d (.bl _)) H o.kp (At.bl _) q
theorem wop_neS {i j : Str} (q : k (.d (.bl (!decide (i = j))))) : WOp π (rNeU K) (.d (.str i)) (.d (.str j)) k := fun X H0 H x y Q o0 o k0 ra rb h => by
  cases ra; cases rb
  refine i_ne_s rfl ?_
  rw [show decide (V.str i = V.str j) = decide (i = j) by simp]
  exact h _ (.d (.bl _)) H o.kp (At.bl _) q
def isNon : D → Bool
  | .non => true
  | _ => false
theorem wop_isN {x : D} (q : k (.d (.bl (isNon x)))) : WOp π (fun x y H Q => y = .non ∧ Q (.bl (decide (x = .non))) H) (.d x) (.d .non) k := fun X H0 H v y Q o0 o k0 ra rb h => by
  cases rb
  refine ⟨rfl, ?_⟩
  have e : decide (v = V.non) = isNon x := by cases ra <;> first | rfl | (exact decide_eq_false fun z => by cases z)
  rw [e]
  exact h _ (.d (.bl _)) H o.kp (At.bl _) q
theorem wop_notN {x : D} (q : k (.d (.bl (!isNon x)))) : WOp π (fun x y H Q => y = .non ∧ Q (.bl (!decide (x = .non))) H) (.d x) (.d .non) k := fun X H0 H v y Q o0 o k0 ra rb h => by
  cases rb
  refine ⟨rfl, ?_⟩
  have e : decide (v = V.non) = isNon x := by cases ra <;> first | rfl | (exact decide_eq_false fun z => by cases z)
  rw [e]
  exact h _ (.d (.bl _)) H o.kp (At.bl _) q
theorem all_flat : ∀ ss : List Str, (ss.map V.str).all flatV = true
  | [] => rfl
  | _ :: ss => all_flat ss
theorem wop_inS {s : Str} {ss : List Str} {b : Rv} (hl : b.li = some (ss.map D.str)) (q : k (.d (.bl (decide (s ∈ ss))))) : WOp π (rIn K false) (.d (.str s)) b k := fun X H0 H x y Q o0 o k0 ra rb h => by
  cases ra
  obtain ⟨p, vs, rfl, e, t⟩ := rb.li hl
  have z := ats_strs t
  subst z
  refine ⟨p, _, rfl, .inl (SqL.of e), rfl, all_flat ss, ?_⟩
  rw [if_neg Bool.false_ne_true, inV_strs]
  exact h _ (.d (.bl _)) H o.kp (At.bl _) q
theorem wop_niS {s : Str} {ss : List Str} {b : Rv} (hl : b.li = some (ss.map D.str)) (q : k (.d (.bl (!decide (s ∈ ss))))) : WOp π (rIn K true) (.d (.str s)) b k := fun X H0 H x y Q o0 o k0 ra rb h => by
  cases ra
  obtain ⟨p, vs, rfl, e, t⟩ := rb.li hl
  have z := ats_strs t
  subst z
  refine ⟨p, _, rfl, .inl (SqL.of e), rfl, all_flat ss, ?_⟩
  rw [if_pos rfl, inV_strs]
  exact h _ (.d (.bl _)) H o.kp (At.bl _) q
theorem wop_inST {s : Str} {ss : List Str} (q : k (.d (.bl (decide (s ∈ ss))))) : WOp π (rIn K false) (.d (.str s)) (.d (.tup (ss.map D.str))) k := fun X H0 H x y Q o0 o k0 ra rb h => by
  cases ra
  cases rb with
  | tup e t =>
    have z := ats_strs t
    subst z
    refine ⟨_, _, rfl, .inr (SqT.of (of_cut e).2), rfl, all_flat ss, ?_⟩
    rw [if_neg Bool.false_ne_true, inV_strs]
    exact h _ (.d (.bl _)) H o.kp (At.bl _) q
theorem wop_cat {a b : Rv} {xs ys : List D} (h1 : a.li = some xs) (h2 : b.li = some ys) (hz : xs.length + ys.length ≤ 4000) (q : k (.new (.lst (xs ++ ys)))) : WOp π rAddU a b k := fun X H0 H x y Q o0 o k0 ra rb h => by
  obtain ⟨p, vs, rfl, e, t⟩ := ra.li h1
  obtain ⟨p', ws, rfl, e', t'⟩ := rb.li h2
  exact .inr (.inr ⟨p, p', vs, ws, rfl, rfl, e, e', by rw [t.length, t'.length]; exact le_line hz, fun l hl => new_lst o k0 o0 (t.append t') h q l hl⟩)
end
section
variable {π : Po} {δ : List Rv} {k : Ke} {te ty tv ta : TE} {t : TA} {K : PySem.W.Frag} {n : Nat} {p : Addr}
theorem Iv.mut {H0 : Hp} {X0 : Xs} {L : Lk} {X : Xs} {H : Hp} {o : HO} (iv : Iv π H0 X0 L X H) (xp : X p) (np : π ≠ some p) (h0 : H0 p = none) : Iv π H0 X0 L X (L2.upd H p o) := by
  have hL : L p = none := by
    cases e : L p with
    | none => rfl
    | some x => exact absurd xp (iv.lk p x e).2
  refine ⟨⟨fun q x => ?_, fun q e => ?_⟩, iv.ok0, ⟨fun a u m e => ?_, fun q e => ?_⟩, iv.sub, fun a x e => ?_, fun a h => ?_⟩
  · by_cases hq : q = p
    · rw [hq, upd_same]; exact fun z => by cases z
    · rw [upd_ne hq]; exact iv.ok.dom q x
  · obtain ⟨x, a, b, h, g⟩ := iv.ok.pot q e
    exact ⟨x, a, b, by rw [upd_ne (fun z => np (by rw [e, z]))]; exact h, g⟩
  · have z := iv.kp.keep a u m e
    have ha : a ≠ p := ne_of_none e h0
    unfold undo at z ⊢
    cases hl : L a with
    | none => rw [hl] at z; simp only; rw [upd_ne ha]; exact z
    | some w => rw [hl] at z; exact z
  · obtain ⟨x, y, h, g⟩ := iv.kp.pot q e
    refine ⟨x, y, ?_, g⟩
    have ha : q ≠ p := fun z => np (by rw [e, z])
    unfold undo at h ⊢
    cases hl : L q with
    | none => rw [hl] at h; simp only; rw [upd_ne ha]; exact h
    | some w => rw [hl] at h; exact h
  · obtain ⟨h1, h2⟩ := iv.lk a x e
    exact ⟨by rw [upd_ne (fun z => h2 (by rw [z]; exact xp))]; exact h1, h2⟩
  · by_cases ha : a = p
    · rw [ha, upd_same]; exact fun z => by cases z
    · rw [upd_ne ha]; exact iv.old a h
theorem mut_mo {X : Xs} {H : Hp} {o : HO} (xp : X p) : Mo (cut X H) (cut X (L2.upd H p o)) := cut_keep (fun a u nx e => by rw [upd_ne (fun z => nx (by rw [z]; exact xp))]; exact e) fun _ _ n _ => n
theorem Ev.mut {X : Xs} {H : Hp} {σ : L2.St} {o : HO} {x : D} (ev : Ev π X H σ δ) (h : δ[n]? = some (.own p x)) (xp : X p) (x' : D) (np : π ≠ some p) (ha : AtO X (L2.upd H p o) p x') : Ev π X (L2.upd H p o) σ (δ.set n (.own p x')) := by
  have m := mut_mo (H := H) (o := o) xp
  refine ⟨by rw [List.length_set]; exact ev.len, fun j s ov h1 h2 => ?_, fun j l s t q h1 h2 a1 a2 => ?_⟩
  · rcases set_get h1 with ⟨rfl, rfl⟩ | ⟨nj, g1⟩
    · obtain ⟨v, e1, e2, _⟩ := ev.get h (fun z => by cases z)
      rw [h2] at e1
      cases e1
      exact ⟨v, rfl, e2, xp, np, ha⟩
    · have y := ev.at_ j s ov g1 h2
      cases s with
      | un => trivial
      | d w => obtain ⟨v, e, a⟩ := y; exact ⟨v, e, a.mono m⟩
      | own q w =>
        obtain ⟨v, e, e2, xq, nq, t⟩ := y
        have hq : q ≠ p := fun z => nj (ev.nd j n _ _ p g1 h (by rw [z]; rfl) rfl)
        exact ⟨v, e, e2, xq, nq, t.keep (fun o h => by rw [upd_ne hq]; exact h) m⟩
      | new w => obtain ⟨v, e, q, e2, nq, t⟩ := y; exact absurd nq t.some
      | pot => exact y
      | raw w => exact y
  · rcases set_get h1 with ⟨e1, e2⟩ | ⟨n1, g1⟩
    · rcases set_get h2 with ⟨e3, e4⟩ | ⟨n2, g2⟩
      · exact e1.trans e3.symm
      · rw [e2] at a1
        rw [e1]
        exact ev.nd n l _ t q h g2 a1 a2
    · rcases set_get h2 with ⟨e3, e4⟩ | ⟨n2, g2⟩
      · rw [e4] at a2
        rw [e3]
        exact ev.nd j n s _ q g1 h a1 a2
      · exact ev.nd j l s t q g1 g2 a1 a2
theorem Own0.mut {H0 : Hp} {X0 : Xs} {x x' : D} (ow : Own0 H0 X0 δ) (h : δ[n]? = some (.own p x)) : Own0 H0 X0 (δ.set n (.own p x')) := ow.put fun q e => by cases e; exact ow n _ p h rfl
/-- xs.append(e) -/
theorem ws_append {ds : List D} (h : δ[n]? = some (.own p (.lst ds))) (hz : ds.length < 4000) (q : Wp π te δ fun r => ∃ x, r.fz = some x ∧ k.nx (δ.set n (.own p (.lst (ds ++ [x]))))) : Ws π (tDrop (tBM K "list" rAppend (tVar n) (tCons te tNil))) k δ := fun H0 X0 L X H σ D iv ev ow en => by
  obtain ⟨v, e1, rfl, xp, np, a⟩ := ev.get h (fun z => by cases z)
  obtain ⟨vs, hp, t⟩ := id a
  refine ⟨.ref p, e1, .inl ⟨rfl, _, SqL.of hp⟩, ?_⟩
  refine q X H σ _ iv.ok ev fun v r H1 k1 ra w => ?_
  obtain ⟨x, hf, kn⟩ := w
  have iv1 := iv.keep k1
  have ev1 := ev.keep iv.ok k1
  obtain ⟨_, e1', _, _, _, vs1, hp1, t1⟩ := ev1.get h (fun z => by cases z)
  have ax := ra.fz iv.ok hf
  have m := mut_mo (H := H1) (o := .lst (vs1 ++ [v])) xp
  refine ⟨p, vs1, v, rfl, rfl, hp1, by rw [t1.length]; exact Nat.lt_of_lt_of_le hz (by decide), ?_⟩
  refine en.nx X _ σ _ (iv1.mut xp np (ow n _ p h rfl).1) (ev1.mut h xp (.lst (ds ++ [x])) np ⟨_, upd_same, (t1.mono m).snoc (ax.mono m)⟩) (ow.mut h) ((iv.ok.fr k1).trans ⟨m, fun a h => ?_⟩) kn
  by_cases ha : a = p
  · rw [ha, upd_same]; exact fun z => by cases z
  · rw [upd_ne ha]; exact h
theorem putF_new {f : Str} {v : V} : ∀ {fs : List (Str × V)}, fs.lookup f = none → putF f v fs = fs ++ [(f, v)]
  | [], _ => rfl
  | (g, x) :: r, h => by
    rw [List.lookup_cons] at h
    cases hg : f == g with
    | true => rw [hg] at h; cases h
    | false =>
      rw [hg] at h
      have hn : ¬ g = f := fun z => by rw [z] at hg; simp at hg
      show (if g = f then (g, v) :: r else (g, x) :: putF f v r) = _
      rw [if_neg hn, putF_new h]
      rfl
/-- self.f = e, a new field -/
theorem ws_fld {C : Addr} {f : Str} {fd : List (Str × D)} (h : δ[n]? = some (.own p (.obj C fd))) (c : Cls K C) (na : NoAttr K C f) (hl : fd.lookup f = none) (hz : fd.length < 900) (q : Wp π tv δ fun r => ∃ x, r.fz = some x ∧ k.nx (δ.set n (.own p (.obj C (fd ++ [(f, x)]))))) : Ws π (sFld K (tVar n) tv f) k δ := fun H0 X0 L X H σ D iv ev ow en => by
  refine q X H σ _ iv.ok ev fun v r H1 k1 ra w => ?_
  have iv1 := iv.keep k1
  have ev1 := ev.keep iv.ok k1
  obtain ⟨x, hf, kn⟩ := w
  obtain ⟨v1, e1, rfl, xp, np, dx, fs, hp, ek, t⟩ := ev1.get h (fun z => by cases z)
  have ax := ra.fz iv.ok hf
  have hlen : fs.length = fd.length := by simpa using congrArg List.length ek
  have hno := lookup_no ek hl
  have m := mut_mo (H := H1) (o := .ins C dx (fs ++ [(f, v)])) xp
  refine ⟨.ref p, e1, p, C, dx, fs, rfl, hp, c, na, by omega, ?_⟩
  rw [putF_new hno]
  refine en.nx X _ σ _ (iv1.mut xp np (ow n _ p h rfl).1) (ev1.mut h xp (.obj C (fd ++ [(f, x)])) np ⟨dx, _, upd_same, by rw [List.map_append, List.map_append, ek]; rfl, by rw [List.map_append, List.map_append]; exact (t.mono m).append (.cons (ax.mono m) .nil)⟩) (ow.mut h) ((iv.ok.fr k1).trans ⟨m, fun a h => ?_⟩) kn
  by_cases ha : a = p
  · rw [ha, upd_same]; exact fun z => by cases z
  · rw [upd_ne ha]; exact h
end
end Dt
namespace Dt
open PySem PySem.Spec PyProof.Rows L2 Ly
/-- a constructor over data: B says what must be so of the arguments that an object k may be counted on -/
def spI (C : Addr) (pt : Bool) (B : List Rv → (D → Prop) → Prop) : Sp := fun vs H Q _ => ∃ (π : Po) (X : Xs) (H1 : Hp) (x dx : Addr) (ws : List V) (rs : List Rv) (k : D → Prop), vs = .ref x :: ws ∧ H1 x = none ∧ H1 dx = none ∧ dx ≠ x ∧ H = L2.upd (L2.upd H1 dx (.own x)) x (.ins C dx []) ∧
  π.isSome = pt ∧ Ok π X H1 ∧ rs.all isArg = true ∧ RAts π X H1 H1 rs ws ∧ B rs k ∧ ∀ H' fs, Kp π H1 H' → AtO (plus X x) H' x (.obj C fs) → k (.obj C fs) → Q .non H'
theorem RAts.up {π : Po} {X : Xs} {H H' : Hp} (m : Mo (cut X H) (cut X H')) : ∀ {rs : List Rv} {vs : List V}, rs.all isArg = true → RAts π X H H rs vs → RAts π X H' H' rs vs
  | [], [], _, _ => trivial
  | r :: rs, v :: vs, h, ⟨a, b⟩ => by
    simp only [List.all_cons, Bool.and_eq_true] at h
    refine ⟨?_, b.up m h.2⟩
    cases r with
    | d x => exact At.mono m a
    | pot => exact a
    | raw w => exact a
    | _ => cases h.1
  | [], _ :: _, _, a => a.elim
  | _ :: _, [], _, a => a.elim
theorem RAts.plus {π : Po} {X : Xs} {H H' : Hp} {x : Addr} (m : Mo (cut X H) (cut (plus X x) H')) : ∀ {rs : List Rv} {vs : List V}, rs.all isArg = true → RAts π X H H rs vs → RAts π (plus X x) H' H' rs vs
  | [], [], _, _ => trivial
  | r :: rs, v :: vs, h, ⟨a, b⟩ => by
    simp only [List.all_cons, Bool.and_eq_true] at h
    refine ⟨?_, RAts.plus m h.2 b⟩
    cases r with
    | d x => exact At.mono m a
    | pot => exact a
    | raw w => exact a
    | _ => cases h.1
  | [], _ :: _, _, a => a.elim
  | _ :: _, [], _, a => a.elim
theorem run_init {C : Addr} {pt : Bool} {B : List Rv → (D → Prop) → Prop} {t : TS} {N : List Str} {m n : Nat} {vs : List V} {H : Hp} {Q : VK} {E : XK} (hm : N.length - (n + 1) = m) (hB : ∀ rs k, B rs k → rs.length = n)
    (ht : ∀ (π : Po) (rs : List Rv) (k : D → Prop) (x : Addr), π.isSome = pt → B rs k → Ws π t ⟨fun δ => ∃ fs, δ[0]? = some (.own x (.obj C fs)) ∧ k (.obj C fs), fun _ => False, fun _ => False, fun _ => False⟩ (.own x (.obj C []) :: (rs ++ uns m))) (h : spI C pt B vs H Q E) : t { nx := fun _ H' => Q .non H', rt := Q } (L2.start N vs) H := by
  obtain ⟨π, X, H1, x, dx, ws, rs, k, rfl, hx, hdx, hne, rfl, hp, ok, ha, at_, b, q⟩ := h
  have hl := hB rs k b
  have nX : ¬ X x := fun z => ok.dom x z hx
  have nXd : ¬ X dx := fun z => ok.dom dx z hdx
  have npx : π ≠ some x := fun z => nX (ok.pot x z).1
  have hx' : (L2.upd H1 dx (.own x)) x = none := by rw [upd_ne hne.symm]; exact hx
  have k1 : Kp π H1 (L2.upd (L2.upd H1 dx (.own x)) x (.ins C dx [])) := (ok.kp.add ok hdx).add ok hx
  have m1 : Mo (cut X H1) (cut (plus X x) (L2.upd (L2.upd H1 dx (.own x)) x (.ins C dx []))) := cut_keep (fun a u n e => k1.keep a u (fun z => n (ok.pot a z).1) e) fun a u n e z => z.elim n (ne_of_none e hx)
  have ok1 : Ok π (plus X x) (L2.upd (L2.upd H1 dx (.own x)) x (.ins C dx [])) := ⟨fun p z => z.elim (fun z => (ok.keep k1).dom p z) fun z => by rw [z, upd_same]; exact fun z => (by cases z), fun q e => ⟨.inl (ok.pot q e).1, k1.pot q e⟩⟩
  have ats := at_.plus m1 ha
  have ev : Ev π (plus X x) (L2.upd (L2.upd H1 dx (.own x)) x (.ins C dx [])) (L2.start N (.ref x :: ws)) (.own x (.obj C []) :: (rs ++ uns m)) := by
    have z := Ev.start (N := List.replicate (N.length - 1) ("" : Str)) (m := m) ats ha (by rw [List.length_replicate, ← at_.length, hl]; omega)
    have es : L2.start N (.ref x :: ws) = some (.ref x) :: L2.start (List.replicate (N.length - 1) ("" : Str)) ws := by
      unfold L2.start
      rw [List.map_cons, List.cons_append, List.length_replicate, List.length_cons]
      congr 3
      omega
    rw [es]
    refine ⟨by rw [List.length_cons, List.length_cons, z.len], fun i r o h1 h2 => ?_, fun i j r s p h1 h2 a1 a2 => ?_⟩
    · cases i with
      | zero =>
        simp only [List.getElem?_cons_zero, Option.some.injEq] at h1 h2
        subst h1
        subst h2
        exact ⟨.ref x, rfl, rfl, .inr rfl, npx, dx, [], upd_same, rfl, .nil⟩
      | succ i =>
        rw [List.getElem?_cons_succ] at h1 h2
        exact z.at_ i r o h1 h2
    · have no : ∀ (i : Nat) (r : Rv), (rs ++ uns m)[i]? = some r → adr r = none := fun i r h => by
        cases e : adr r with
        | none => rfl
        | some p => exact ((own_args (H0 := fun _ => some (.own 0)) (X0 := fun _ => True) ha i r p h e).2 trivial).elim
      cases i with
      | zero =>
        cases j with
        | zero => rfl
        | succ j =>
          rw [List.getElem?_cons_succ] at h2
          rw [no j s h2] at a2
          cases a2
      | succ i =>
        rw [List.getElem?_cons_succ] at h1
        rw [no i r h1] at a1
        cases a1
  have ow : Own0 H1 X (.own x (.obj C []) :: (rs ++ uns m)) := fun i r p h1 a1 => by
    cases i with
    | zero =>
      simp only [List.getElem?_cons_zero, Option.some.injEq] at h1
      subst h1
      cases a1
      exact ⟨hx, nX⟩
    | succ i =>
      rw [List.getElem?_cons_succ] at h1
      exact own_args ha i r p h1 a1
  refine ht π rs k x hp b H1 X (fun _ => none) (plus X x) _ _ _ ⟨ok1, ok, by rw [undo_none]; exact k1, fun _ z => .inl z, fun a u e => (by cases e), fun a h => ?_⟩ ev ow ⟨fun X' H' σ δ iv e2 _ _ w => ?_, fun X' H' σ δ iv _ _ _ w => w.elim, fun X' H' σ δ iv _ _ _ w => w.elim, fun X' H' v r iv _ no a w => w.elim⟩
  · exact fun z => h (k1.free ok z)
  · obtain ⟨fs, h0, kf⟩ := w
    obtain ⟨v, _, _, xx, _, t0⟩ := e2.get h0 (fun z => by cases z)
    have z := iv.kp
    rw [undo_none] at z
    exact q H' fs z (t0.less (cut_less fun a y => y.elim (iv.sub a) fun y => by rw [y]; exact xx)) kf
/-- a class whose objects are made over data -/
theorem len_I {C : Addr} {pt : Bool} {B : List Rv → (D → Prop) → Prop} {n : Nat} (hB : ∀ rs k, B rs k → rs.length = n) : ∀ vs H Q E, spI C pt B vs H Q E → vs.length = n + 1 := fun vs H Q E ⟨π, X, H1, x, dx, ws, rs, k, h, _, _, _, _, _, _, _, at_, b, _⟩ => by
  rw [h, List.length_cons, ← at_.length, hB rs k b]
section
variable {π : Po} {δ : List Rv} {k : Rv → Prop} {t : TA} {C : Addr} {B : List Rv → (D → Prop) → Prop} {dvs : List V} {drs : List Rv}
def DRel : List Rv → List V → Prop
  | [], [] => True
  | .d (.int i) :: rs, .int j :: vs => i = j ∧ DRel rs vs
  | .d .non :: rs, .non :: vs => DRel rs vs
  | _, _ => False
theorem drel_ats {π : Po} {X : Xs} {H0 H : Hp} : ∀ {rs : List Rv} {vs : List V}, DRel rs vs → RAts π X H0 H rs vs
  | [], [], _ => trivial
  | .d (.int i) :: rs, .int j :: vs, ⟨h, g⟩ => ⟨(by rw [h]; exact At.int j), drel_ats g⟩
  | .d .non :: rs, .non :: vs, g => ⟨At.non, drel_ats g⟩
  | [], _ :: _, h => h.elim
  | .d (.int i) :: rs, [], h => h.elim
  | .d .non :: rs, [], h => h.elim
theorem RAts.app {π : Po} {X : Xs} {H0 H : Hp} : ∀ {rs ss : List Rv} {vs ws : List V}, RAts π X H0 H rs vs → RAts π X H0 H ss ws → RAts π X H0 H (rs ++ ss) (vs ++ ws)
  | [], _, [], _, _, b => b
  | _ :: _, _, _ :: _, _, ⟨a, c⟩, b => ⟨a, c.app b⟩
  | [], _, _ :: _, _, a, _ => a.elim
  | _ :: _, _, [], _, a, _ => a.elim
/-- C(..): an object -/
theorem w_make (hd : DRel drs dvs) (q : WpA π t δ fun as => ∃ rs, fzA as = some rs ∧ (rs ++ drs).all isArg = true ∧ (rs ++ drs).all noPot = true ∧ B (rs ++ drs) fun d => k (.d d)) : Wp π (tMake C (spI C false B) dvs E0 t) δ k := fun X H σ Q o e h => by
  refine q X H σ _ o e fun vs as H1 k1 a w => ?_
  obtain ⟨rs, hf, hA, hN, b⟩ := w
  intro x dx hx hdx hne
  have o1 := o.keep k1
  have a1 := a.fzA o hf
  refine ⟨none, X, H1, x, dx, vs ++ dvs, rs ++ drs, fun d => k (.d d), rfl, hx, hdx, hne, rfl, rfl, o1.none, hA, (a1.app (drel_ats hd)).free hA hN, b, fun H' fs k2 t2 kd => ⟨rfl, ?_⟩⟩
  have k3 : Kp π H1 H' := Kp.of_same o1 k2.same
  have nX : ¬ X x := fun z => o1.dom x z hx
  refine h (.ref x) (.d (.obj C fs)) H' (k1.trans k3) ?_ kd
  obtain ⟨dx', fs', e1, e2, t3⟩ := t2
  exact At.obj (cut_of nX e1) e2 (t3.mono plus_sub)
end
end Dt
namespace Dt
open PySem PySem.Spec PyProof.Rows L2 Ly
abbrev fracQ (q : Rat) : D := .tup [.int q.num, .int (q.den : Int)]
abbrev ratQ (C : Addr) (q : Rat) : D := .obj C [("_top", .int q.num), ("_bottom", .int (q.den : Int))]
theorem den_pos (q : Rat) : (0 : Int) < (q.den : Int) := by
  have := q.den_nz
  omega
theorem nu_q {t b : Int} (h : b ≠ 0) : Nu t b = (Rat.divInt t b).num := by
  rw [Rat.num_divInt]
  unfold Nu G
  rw [Int.gcd_comm b t]
  by_cases h0 : 0 < b
  · rw [if_pos h0, Int.sign_eq_one_of_pos h0, Int.one_mul]
  · rw [if_neg h0, Int.sign_eq_neg_one_of_neg (by omega), Int.neg_one_mul]
theorem de_q {t b : Int} (h : b ≠ 0) : De t b = ((Rat.divInt t b).den : Int) := by
  rw [Rat.den_divInt, if_neg h]
  unfold De G
  rw [Int.gcd_comm b t]
  have hg : 0 < Int.gcd t b := Int.gcd_pos_of_ne_zero_right t h
  by_cases h0 : 0 < b
  · rw [if_pos h0, Int.natCast_ediv]
    congr 1
    omega
  · rw [if_neg h0, Int.natCast_ediv]
    congr 1
    omega
theorem q_lo (q : Rat) : Rat.divInt q.num q.den = q := Rat.num_divInt_den q
theorem int_num (i : Int) : (i : Rat).num = i := rfl
theorem int_den (i : Int) : (i : Rat).den = 1 := rfl
def SzQ (n : Nat) (q : Rat) : Prop := Sz n q.num ∧ Sz n (q.den : Int)
/-- a number: an int or a Ratio -/
inductive NumQ (C : Addr) : D → Rat → Prop
  | int (i : Int) : NumQ C (.int i) (i : Rat)
  | rat (q : Rat) : NumQ C (ratQ C q) q
end Dt
namespace Dt
open PySem PySem.Spec PyProof.Rows L2 Ly
theorem ex_fzd {x : D} {P : D → Prop} (q : P x) : ∃ y, (Rv.d x).fz = some y ∧ P y := ⟨x, rfl, q⟩
theorem ex_fzn {x : D} {P : D → Prop} (q : P x) : ∃ y, (Rv.new x).fz = some y ∧ P y := ⟨x, rfl, q⟩
theorem ite_nt {A B : Prop} (h : B) : if (!true) = true then A else B := ite_f (A := A) h
theorem ite_nf {A B : Prop} (h : A) : if (!false) = true then A else B := ite_t (B := B) h
section
variable {π : Po} {δ : List Rv} {k : Rv → Prop} {K : PySem.W.Frag}
theorem wop_fdX {i j : Int} (c : CDivX i j) (q : k (.d (.int (i.fdiv j)))) : WOp π (rI CDivX fun i j => V.int (i.fdiv j)) (.d (.int i)) (.d (.int j)) k := fun X H0 H x y Q o0 o k0 ra rb h => by
  cases ra; cases rb
  exact i_I c (h _ (.d (.int (i.fdiv j))) H o.kp (At.int _) q)
theorem wun_U {i : Int} {g : Int → V} {j : Int} (e : g i = .int j) (q : k (.d (.int j))) : WUn π (rU g) (.d (.int i)) k := fun X H0 H x Q o0 o k0 ra h => by
  cases ra
  refine i_U ?_
  rw [e]
  exact h _ (.d (.int j)) H o.kp (At.int _) q
theorem fld_of {f : Str} {r : Rv} {C : Addr} {fd : List (Str × D)} {d : D} (ho : r.ob = some (C, fd)) (c : Cls K C) (n : NoAttr K C f) (l : fd.lookup f = some d) (q : k (.d d)) : Fld K f r k := ⟨C, fd, d, ho, c, n, l, q⟩
def bTop (C : Addr) (rs : List Rv) (k : Rv → Prop) : Prop := ∃ q, rs = [.d (ratQ C q)] ∧ k (.d (.int q.num))
def bBot (C : Addr) (rs : List Rv) (k : Rv → Prop) : Prop := ∃ q, rs = [.d (ratQ C q)] ∧ k (.d (.int (q.den : Int)))
theorem wp_top {E : XK} {C : Addr} {q : Rat} (h : k (.d (.int q.num))) : (∃ fd, (Rv.d (ratQ C q)).ob = some (C, fd)) ∧ WCb π (fun vs H Q => spW false (bTop C) vs H Q E) [Rv.d (ratQ C q)] k :=
  ⟨⟨_, rfl⟩, wcb_W0 (rs := [.d (ratQ C q)]) rfl rfl ⟨q, rfl, (fun z => by cases z), h⟩⟩
theorem wp_bot {E : XK} {C : Addr} {q : Rat} (h : k (.d (.int (q.den : Int)))) : (∃ fd, (Rv.d (ratQ C q)).ob = some (C, fd)) ∧ WCb π (fun vs H Q => spW false (bBot C) vs H Q E) [Rv.d (ratQ C q)] k :=
  ⟨⟨_, rfl⟩, wcb_W0 (rs := [.d (ratQ C q)]) rfl rfl ⟨q, rfl, (fun z => by cases z), h⟩⟩
end
section
variable {X : Cx} {K : PySem.W.Frag} {e o value : Expr} {f : Str} {pos tpos : Pos} {ta tv : TE}
theorem pe_fldK (hK : X.K = K) (he : PE X e ta) (hb : attributeBase e f X.env (eval e X.env) = eval e X.env) : PE X (.Attribute e f pos) (tFld K ta f) := by
  subst hK
  exact pe_fld he hb
theorem ps_fldK (hK : X.K = K) (ho : PE X o ta) (hv : PE X value tv) (hb : swapsWith value (some (.Attribute o f tpos)) pos.line X.env = pure false) : PS X (.Assign [.Attribute o f tpos] value pos) (sFld K ta tv f) := by
  subst hK
  exact ps_fld ho hv hb
end
end Dt
namespace Dt
open PySem PySem.Spec PyProof.Rows L2 Ly
theorem atI_in {ds : List D} {d : Int} (h0 : 0 ≤ d) (h1 : d < ds.length) : ∃ x, x ∈ ds ∧ atI ds d = some x := by
  have hl : d.toNat < ds.length := by omega
  refine ⟨ds[d.toNat], List.getElem_mem hl, ?_⟩
  have z := atI_nat (xs := ds) (j := d.toNat) (v := ds[d.toNat]) (by simp [hl])
  rw [show ((d.toNat : Nat) : Int) = d by omega] at z
  exact z
theorem sz_len {n : Nat} (h : n ≤ 4000) : Sz 4000 (n : Int) := sz_lit (by omega)
theorem wcb_fracQ {π : Po} {k : Rv → Prop} {E : XK} {u d : Int} (hd : d ≠ 0) (z1 : Sz 8900 u) (z2 : Sz 8900 d) (q : k (.d (fracQ (Rat.divInt u d)))) : WCb π (fun vs H Q => spFrac vs H Q E) [.d (.int u), .d (.int d)] k :=
  wcb_frac hd z1 z2 (by rw [nu_q hd, de_q hd]; exact q)
theorem szq_mul {n m : Nat} {p q : Rat} (hp : SzQ n p) (hq : SzQ m q) : Sz (n + m) (p.num * q.num) ∧ Sz (n + m) ((p.den : Int) * (q.den : Int)) := ⟨sz_mul hp.1 hq.1, sz_mul hp.2 hq.2⟩
end Dt
namespace Lw
open PySem PySem.Spec PyProof.Rows L2 Ly Dt
local macro_rules | `(tactic| walk_at "wk") => `(tactic| first
  | ((with_reducible refine' w_var ?hv ?hn ?_); (case hv => exact rfl); (case hn => (intro z; cases z)))
  | with_reducible refine w_int ?_
  | with_reducible refine w_str ?_
  | with_reducible refine w_op ?_
  | with_reducible refine wa_cons ?_
  | with_reducible refine wa_nil ?_
  | with_reducible refine w_reprL ?_
  | with_reducible refine w_isi2 ?_
  | with_reducible refine w_cb ?_
  | with_reducible refine w_call ?_
  | ((with_reducible refine' ws_retV ?hv ?_); (case hv => exact rfl))
  | with_reducible refine ws_seq ?_
  | with_reducible refine ws_asg ?_
  | with_reducible refine ws_ret ?_
  | with_reducible refine ws_if ?_
  | with_reducible refine ws_next ?_
  | ((with_reducible refine' ws_append ?hv ?hz ?_); (case hv => exact rfl); rotate_left)
  | with_reducible refine ws_drop ?_
  | with_reducible refine ws_retN ?_
  | ((with_reducible refine wg_d ?_); dsimp only [List.set])
  | ((with_reducible refine wg_raw ?_); dsimp only [List.set])
  | ((with_reducible refine wg_E ?_))
  | ((with_reducible refine' we_tup ?hl ?_); (case hl => exact rfl))
  | with_reducible refine wes_cons ?_
  | with_reducible refine wes_nil ?_
  | ((with_reducible refine we_name ?_); dsimp only [List.set])
  | with_reducible refine out_d ?_
  | with_reducible refine out_new ?_
  | with_reducible refine ex_bl ?_
  | with_reducible refine ite_t ?_
  | ((with_reducible refine ex_fzd ?_); dsimp only [List.set, List.nil_append, List.cons_append])
  | ((with_reducible refine ex_fzn ?_); dsimp only [List.set, List.nil_append, List.cons_append])
  | with_reducible refine ite_nt ?_
  | with_reducible refine ite_nf ?_
  | with_reducible refine ite_f ?_
  | with_reducible refine wt_tb ?_
  | with_reducible refine wt_test ?_
  | with_reducible refine wt_and ?_
  | with_reducible refine wt_or ?_
  | with_reducible refine wt_not ?_
  | with_reducible refine w_andV ?_
  | with_reducible refine w_orV ?_
  | with_reducible refine w_notV ?_
  | with_reducible refine w_if ?_
  | with_reducible refine w_bl ?_
  | with_reducible refine w_non ?_
  | with_reducible refine w_ty ?_
  | with_reducible refine w_ref ?_
  | with_reducible refine w_un ?_
  | ((with_reducible refine w_tup ?_); skip)
  | ((with_reducible refine w_lst ?_); skip)
  | ((with_reducible refine' Exists.intro _ (And.intro ?hf (And.intro ?hl ?_))); (case hf => exact rfl); (case hl => exact Nat.le_of_ble_eq_true rfl))
  | with_reducible refine w_fld ?_
  | ((with_reducible refine' fld_of ?ho ?c ?n ?l ?_); (case ho => exact rfl); (case c => assumption); (case n => with_reducible assumption); (case l => exact rfl))
  | with_reducible refine wp_top ?_
  | with_reducible refine wp_bot ?_
  | with_reducible refine w_prop ?_
  | with_reducible refine w_meth ?_
  | with_reducible refine w_smeth ?_
  | with_reducible refine wop_addI ?_
  | with_reducible refine wop_subI ?_
  | ((with_reducible refine' wop_mulI ?c ?_); rotate_left)
  | ((with_reducible refine' wop_fdI ?c ?_); rotate_left)
  | with_reducible refine wop_mdI (by first | decide | assumption) ?_
  | ((with_reducible refine' wop_mdI ?c ?_); rotate_left)
  | ((with_reducible refine' wop_I0 ?e ?_); (case e => exact rfl))
  | ((with_reducible refine' wop_ixT ?e ?_); (case e => exact rfl))
  | ((with_reducible refine' wcb_lenL ?e ?_); (case e => exact rfl))
  | with_reducible refine wcb_lenT ?_
  | ((with_reducible refine' wop_fdX ?c ?_); rotate_left)
  | ((with_reducible refine' wun_U ?e ?_); (case e => exact rfl))
  | with_reducible refine wop_eqI ?_
  | with_reducible refine wop_neI ?_
  | with_reducible refine wop_eqS ?_
  | with_reducible refine wop_neS ?_
  | with_reducible refine wop_isN ?_
  | with_reducible refine wop_notN ?_
  | ((with_reducible refine' wop_inS ?e ?_); (case e => exact rfl))
  | ((with_reducible refine' wop_niS ?e ?_); (case e => exact rfl))
  | with_reducible refine wop_inST ?_
  | with_reducible refine wcb_gcd ?_
  | with_reducible refine wcb_abs ?_
  | with_reducible refine wcb_max2 ?_
  | with_reducible refine wcb_min2 ?_
  | with_reducible refine wcb_int ?_
  | ((with_reducible refine' wcb_isi (b := true) ?ho ?hb ?_); (case ho => exact rfl); (case hb => (dsimp only [tyN]; decide +kernel)))
  | ((with_reducible refine' wcb_isi (b := false) ?ho ?hb ?_); (case ho => exact rfl); (case hb => (dsimp only [tyN]; decide +kernel)))
  | ((with_reducible refine' wcb_listOf ?e ?_); (case e => exact rfl))
  | with_reducible refine wcb_listOfT ?_
  | ((with_reducible refine' wcb_tupOf ?e ?_); (case e => exact rfl))
  | with_reducible refine w_chain ?_
  | with_reducible refine wcb_strS ?_
  | ((with_reducible refine' wcb_lenD ?e ?_); (case e => exact rfl))
  | ((with_reducible refine' wcb_listD ?e ?_); (case e => exact rfl))
  | with_reducible refine w_dnewK ?_
  | with_reducible refine w_dget ?_
  | with_reducible refine w_din ?_
  | with_reducible refine w_dni ?_
  | with_reducible refine w_lenSet ?_
  | with_reducible refine w_listVals ?_
  | with_reducible refine w_chain ?_
  | ((with_reducible refine' wt_yes ?_)))
variable {W : Wd} {a : Ad}
/-- pick: any of the items -/
def bPick (rs : List Rv) (k : Rv → Prop) : Prop := ∃ ds, rs = [.pot, .d (.lst ds)] ∧ ds ≠ [] ∧ ds.length ≤ 4000 ∧ ∀ d, d ∈ ds → k (.d d)
theorem k_law_pick (T : Txt W.K W.mg a) : Cl W 2 "_law_pick" (spW true bPick) := by
  refine cl_W T.d_law_pick sc_law_pick bd_law_pick (fun rs k ⟨_, h, _⟩ => by rw [h]; rfl) (body_W (n := 2) (m := 0) rfl (fun rs k ⟨_, h, _⟩ => by rw [h]; rfl) fun f cdv A outer s H E hr => ⟨_, (pss_one (ps_ret (pe_ix (r := rIx W.K) ix_U (pv 1) (pe_cl (k_law_draw T) hr (by decide) rfl (pa_cons (pv 0) (pa_cons (pe_callB (r := Ly.rLen W.K) call_lenU (by rfl) T.b_len (by decide +kernel) (pa_cons (pv 1) pa_nil)) pa_nil))) (fun _ _ => rfl)))), fun π rs kr hp hB => ?_⟩)
  obtain ⟨ds, rfl, hn, hl, q⟩ := hB
  dsimp only [uns, List.replicate, List.cons_append, List.nil_append]
  repeat walk_at "wk"
  have hp := List.length_pos_iff.mpr hn
  refine wcb_draw (by omega) (sz_len hl) fun d d0 d1 => ?_
  obtain ⟨x, hx, e⟩ := atI_in d0 d1
  exact wop_ixL rfl e (out_d (q x hx))
def bTimes (rs : List Rv) (k : Rv → Prop) : Prop := ∃ p q : Rat, rs = [.d (fracQ p), .d (fracQ q)] ∧ SzQ 4000 p ∧ SzQ 4000 q ∧ k (.d (fracQ (p * q)))
theorem k_law_times (T : Txt W.K W.mg a) : Cl W 2 "_law_times" (spW false bTimes) := by
  refine cl_W T.d_law_times sc_law_times bd_law_times (fun rs k ⟨_, _, h, _⟩ => by rw [h]; rfl) (body_W (n := 2) (m := 0) rfl (fun rs k ⟨_, _, h, _⟩ => by rw [h]; rfl) fun f cdv A outer s H E hr => ⟨_, (pss_one (ps_ret (pe_cl (k_law_frac T) hr (by decide) rfl (pa_cons (pe_op op_mulU (pe_ix (r := rIx W.K) ix_U (pv 0) pe_int (fun _ _ => rfl)) (pe_ix (r := rIx W.K) ix_U (pv 1) pe_int (fun _ _ => rfl))) (pa_cons (pe_op op_mulU (pe_ix (r := rIx W.K) ix_U (pv 0) pe_int (fun _ _ => rfl)) (pe_ix (r := rIx W.K) ix_U (pv 1) pe_int (fun _ _ => rfl))) pa_nil))))), fun π rs kr hp hB => ?_⟩)
  obtain ⟨p, q, rfl, zp, zq, h⟩ := hB
  dsimp only [uns, List.replicate, List.cons_append, List.nil_append]
  repeat walk_at "wk"
  · have hd : (p.den : Int) * (q.den : Int) ≠ 0 := Int.mul_ne_zero (Int.ne_of_gt (den_pos p)) (Int.ne_of_gt (den_pos q))
    refine wcb_fracQ hd (sz_mono (szq_mul zp zq).1 (by decide)) (sz_mono (szq_mul zp zq).2 (by decide)) (out_d ?_)
    rw [← Rat.divInt_mul_divInt, q_lo, q_lo]
    exact h
  all_goals first
    | exact cmul_sz zp.1 zq.1
    | exact cmul_sz zp.2 zq.2
end Lw
namespace Dt
open PySem PySem.Spec PyProof.Rows L2 Ly
def bRatio (C : Addr) (rs : List Rv) (k : D → Prop) : Prop := ∃ t b : Int, rs = [.d (.int t), .d (.int b)] ∧ b ≠ 0 ∧ Sz 8900 t ∧ Sz 8900 b ∧ k (ratQ C (Rat.divInt t b))
theorem divInt_one (u : Int) : Rat.divInt u 1 = (u : Rat) := by
  apply Rat.ext
  · rw [Rat.num_divInt]
    simp
  · rw [Rat.den_divInt]
    simp
theorem div_q {p q : Rat} : Rat.divInt (p.num * (q.den : Int)) ((p.den : Int) * q.num) = p / q := by
  have e : q⁻¹ = Rat.divInt (q.den : Int) q.num := by
    have z := Rat.inv_divInt q.num (q.den : Int)
    rw [q_lo] at z
    exact z
  rw [Rat.div_def, ← Rat.divInt_mul_divInt, q_lo, e]
section
variable {π : Po} {δ : List Rv} {k : Rv → Prop} {t : TA} {C : Addr}
/-- Ratio(u, v) -/
theorem w_ratio2 (q : WpA π t δ fun as => ∃ u v : Int, as = [.d (.int u), .d (.int v)] ∧ v ≠ 0 ∧ Sz 8900 u ∧ Sz 8900 v ∧ k (.d (ratQ C (Rat.divInt u v)))) : Wp π (tMake C (spI C false (bRatio C)) [] E0 t) δ k := by
  refine w_make (drs := []) trivial ?_
  intro X H σ Q o e h
  refine q X H σ Q o e fun vs as H1 k1 a w => h vs as H1 k1 a ?_
  obtain ⟨u, v, rfl, hv, z1, z2, kk⟩ := w
  exact ⟨_, rfl, rfl, rfl, u, v, rfl, hv, z1, z2, kk⟩
theorem w_ratio1 (q : WpA π t δ fun as => ∃ u : Int, as = [.d (.int u)] ∧ Sz 8900 u ∧ k (.d (ratQ C (u : Rat)))) : Wp π (tMake C (spI C false (bRatio C)) [.int 1] E0 t) δ k := by
  refine w_make (drs := [.d (.int 1)]) ⟨rfl, trivial⟩ ?_
  intro X H σ Q o e h
  refine q X H σ Q o e fun vs as H1 k1 a w => h vs as H1 k1 a ?_
  obtain ⟨u, rfl, z1, kk⟩ := w
  exact ⟨_, rfl, rfl, rfl, u, 1, rfl, by decide, z1, sz_mono (n := 1) (by unfold Sz; decide) (by decide), by rw [divInt_one]; exact kk⟩
/-- Ratio.of(x) -/
def bOf (C : Addr) (rs : List Rv) (k : Rv → Prop) : Prop := ∃ d q, rs = [.d d] ∧ NumQ C d q ∧ Sz 4000 q.num ∧ k (.d (ratQ C q))
theorem wcb_of {E : XK} {d : D} {q : Rat} (n : NumQ C d q) (z : Sz 4000 q.num) (h : k (.d (ratQ C q))) : WCb π (fun vs H Q => spW false (bOf C) vs H Q E) [.d d] k := wcb_W0 (rs := [.d d]) rfl rfl ⟨d, q, rfl, n, z, (fun z => by cases z), h⟩
end
end Dt
namespace Lw
open PySem PySem.Spec PyProof.Rows L2 Ly Dt
local macro_rules | `(tactic| walk_at "wk") => `(tactic| first
  | ((with_reducible refine' w_var ?hv ?hn ?_); (case hv => exact rfl); (case hn => (intro z; cases z)))
  | with_reducible refine w_int ?_
  | with_reducible refine w_str ?_
  | with_reducible refine w_op ?_
  | with_reducible refine wa_cons ?_
  | with_reducible refine wa_nil ?_
  | with_reducible refine w_reprL ?_
  | with_reducible refine w_isi2 ?_
  | with_reducible refine w_cb ?_
  | with_reducible refine w_call ?_
  | ((with_reducible refine' ws_retV ?hv ?_); (case hv => exact rfl))
  | with_reducible refine ws_seq ?_
  | with_reducible refine ws_asg ?_
  | with_reducible refine ws_ret ?_
  | with_reducible refine ws_if ?_
  | with_reducible refine ws_next ?_
  | ((with_reducible refine' ws_append ?hv ?hz ?_); (case hv => exact rfl); rotate_left)
  | with_reducible refine ws_drop ?_
  | with_reducible refine ws_retN ?_
  | ((with_reducible refine wg_d ?_); dsimp only [List.set])
  | ((with_reducible refine wg_raw ?_); dsimp only [List.set])
  | ((with_reducible refine wg_E ?_))
  | ((with_reducible refine' we_tup ?hl ?_); (case hl => exact rfl))
  | with_reducible refine wes_cons ?_
  | with_reducible refine wes_nil ?_
  | ((with_reducible refine we_name ?_); dsimp only [List.set])
  | with_reducible refine out_d ?_
  | with_reducible refine out_new ?_
  | with_reducible refine ex_bl ?_
  | with_reducible refine ite_t ?_
  | ((with_reducible refine ex_fzd ?_); dsimp only [List.set, List.nil_append, List.cons_append])
  | ((with_reducible refine ex_fzn ?_); dsimp only [List.set, List.nil_append, List.cons_append])
  | with_reducible refine ite_nt ?_
  | with_reducible refine ite_nf ?_
  | with_reducible refine ite_f ?_
  | with_reducible refine wt_tb ?_
  | with_reducible refine wt_test ?_
  | with_reducible refine wt_and ?_
  | with_reducible refine wt_or ?_
  | with_reducible refine wt_not ?_
  | with_reducible refine w_andV ?_
  | with_reducible refine w_orV ?_
  | with_reducible refine w_notV ?_
  | with_reducible refine w_if ?_
  | with_reducible refine w_bl ?_
  | with_reducible refine w_non ?_
  | with_reducible refine w_ty ?_
  | with_reducible refine w_ref ?_
  | with_reducible refine w_un ?_
  | ((with_reducible refine w_tup ?_); skip)
  | ((with_reducible refine w_lst ?_); skip)
  | ((with_reducible refine' Exists.intro _ (And.intro ?hf (And.intro ?hl ?_))); (case hf => exact rfl); (case hl => exact Nat.le_of_ble_eq_true rfl))
  | with_reducible refine w_fld ?_
  | ((with_reducible refine' fld_of ?ho ?c ?n ?l ?_); (case ho => exact rfl); (case c => assumption); (case n => with_reducible assumption); (case l => exact rfl))
  | with_reducible refine wp_top ?_
  | with_reducible refine wp_bot ?_
  | with_reducible refine w_prop ?_
  | with_reducible refine w_meth ?_
  | with_reducible refine w_smeth ?_
  | with_reducible refine wop_addI ?_
  | with_reducible refine wop_subI ?_
  | ((with_reducible refine' wop_mulI ?c ?_); rotate_left)
  | ((with_reducible refine' wop_fdI ?c ?_); rotate_left)
  | with_reducible refine wop_mdI (by first | decide | assumption) ?_
  | ((with_reducible refine' wop_mdI ?c ?_); rotate_left)
  | ((with_reducible refine' wop_I0 ?e ?_); (case e => exact rfl))
  | ((with_reducible refine' wop_ixT ?e ?_); (case e => exact rfl))
  | ((with_reducible refine' wcb_lenL ?e ?_); (case e => exact rfl))
  | with_reducible refine wcb_lenT ?_
  | ((with_reducible refine' wop_fdX ?c ?_); rotate_left)
  | ((with_reducible refine' wun_U ?e ?_); (case e => exact rfl))
  | with_reducible refine wop_eqI ?_
  | with_reducible refine wop_neI ?_
  | with_reducible refine wop_eqS ?_
  | with_reducible refine wop_neS ?_
  | with_reducible refine wop_isN ?_
  | with_reducible refine wop_notN ?_
  | ((with_reducible refine' wop_inS ?e ?_); (case e => exact rfl))
  | ((with_reducible refine' wop_niS ?e ?_); (case e => exact rfl))
  | with_reducible refine wop_inST ?_
  | with_reducible refine wcb_gcd ?_
  | with_reducible refine wcb_abs ?_
  | with_reducible refine wcb_max2 ?_
  | with_reducible refine wcb_min2 ?_
  | with_reducible refine wcb_int ?_
  | ((with_reducible refine' wcb_isi (b := true) ?ho ?hb ?_); (case ho => exact rfl); (case hb => (dsimp only [tyN]; decide +kernel)))
  | ((with_reducible refine' wcb_isi (b := false) ?ho ?hb ?_); (case ho => exact rfl); (case hb => (dsimp only [tyN]; decide +kernel)))
  | ((with_reducible refine' wcb_listOf ?e ?_); (case e => exact rfl))
  | with_reducible refine wcb_listOfT ?_
  | ((with_reducible refine' wcb_tupOf ?e ?_); (case e => exact rfl))
  | with_reducible refine w_chain ?_
  | with_reducible refine wcb_strS ?_
  | ((with_reducible refine' wcb_lenD ?e ?_); (case e => exact rfl))
  | ((with_reducible refine' wcb_listD ?e ?_); (case e => exact rfl))
  | with_reducible refine w_dnewK ?_
  | with_reducible refine w_dget ?_
  | with_reducible refine w_din ?_
  | with_reducible refine w_dni ?_
  | with_reducible refine w_lenSet ?_
  | with_reducible refine w_listVals ?_
  | with_reducible refine w_chain ?_
  | ((with_reducible refine' wt_yes ?_)))
variable {W : Wd} {a : Ad}
theorem k_init (T : Txt W.K W.mg a) : ∃ (f : Addr) (fd : FuncData), FunD W.K "__init__" "Ratio.__init__" (defArgs s_Ratio_init) (defBody s_Ratio_init) (defScope s_Ratio_init) [.int 1] [] f fd ∧ Mk W.K a.Ratio f ∧ FnOk W.P W.w W.K W.mg W.base CX0 2 f fd ["self", "top", "bottom"] (spI a.Ratio false (bRatio a.Ratio)) := by
  obtain ⟨f, fd, F, M⟩ := T.d_Ratio_init.ex
  refine ⟨f, fd, F, M, F.ok sc_Ratio_init (len_I (n := 2) fun rs k ⟨_, _, h, _⟩ => by rw [h]; rfl) fun cdv A outer s H vs Q E hr h => ⟨_, PSs.nox (pss_cons (ps_if (PW.pt (pw_or (pt_not (pt_val (pe_callB (r := rIsi W.K) call_isi (by rfl) T.b_isinstance (by decide +kernel) (pa_cons (pv 1) (pa_cons (pe_bltn (by rfl) T.b_int (by decide +kernel) (v := .ty "int") rfl) pa_nil))))) (pw_or1 (pt_val (pe_callB (r := rIsi W.K) call_isi (by rfl) T.b_isinstance (by decide +kernel) (pa_cons (pv 1) (pa_cons (pe_bltn (by rfl) T.b_bool (by decide +kernel) (v := .ty "bool") rfl) pa_nil))))))) (pss_one ps_never) pss_nil) (pss_cons (ps_if (PW.pt (pw_or (pt_not (pt_val (pe_callB (r := rIsi W.K) call_isi (by rfl) T.b_isinstance (by decide +kernel) (pa_cons (pv 2) (pa_cons (pe_bltn (by rfl) T.b_int (by decide +kernel) (v := .ty "int") rfl) pa_nil))))) (pw_or (pt_val (pe_callB (r := rIsi W.K) call_isi (by rfl) T.b_isinstance (by decide +kernel) (pa_cons (pv 2) (pa_cons (pe_bltn (by rfl) T.b_bool (by decide +kernel) (v := .ty "bool") rfl) pa_nil)))) (pw_or1 (pt_cmpR (r := rEqU W.K) (op_eqU hr.units) (pv 2) pe_int (nomark _)))))) (pss_one ps_never) pss_nil) (pss_cons (ps_set (i := 3) sc_Ratio_init.nd rfl (Or.inl rfl) (pe_ifExp (pt_cmpR op_gt (pv 2) pe_int (nomark _)) (pe_callBfun cr_gcd (by rfl) T.g_gcd (pa_cons (pv 1) (pa_cons (pv 2) pa_nil))) (pe_un un_neg (pe_callBfun cr_gcd (by rfl) T.g_gcd (pa_cons (pv 1) (pa_cons (pv 2) pa_nil)))))) (pss_cons (ps_fldK (K := W.K) rfl (pv 0) (pe_op op_fdivX (pv 1) (pv 3)) rfl) (pss_one (ps_fldK (K := W.K) rfl (pv 0) (pe_op op_fdivX (pv 2) (pv 3)) rfl)))))), run_init (n := 2) (m := 1) rfl (fun rs k ⟨_, _, h, _⟩ => by rw [h]; rfl) (fun π rs k x hp hB => ?_) h⟩⟩
  obtain ⟨t, b, rfl, hb, z1, z2, q⟩ := hB
  dsimp only [uns, List.replicate, List.cons_append, List.nil_append]
  have hg := G_pos (t := t) hb
  have e1 := nu_of (t := t) hb
  have e2 := de_of (t := t) hb
  rw [nu_q hb] at e1
  rw [de_q hb] at e2
  have zg : Sz 8900 (G t b) := sz_le z2 (g_le t b hb)
  repeat walk_at "wk"
  refine ite_d (fun z => (hb z).elim) fun _ => ?_
  repeat walk_at "wk"
  refine ite_d (fun h0 => ?_) fun h0 => ?_
  · rw [if_pos h0] at e1 e2
    repeat walk_at "wk"
    refine ws_fld rfl T.o_Ratio.cls T.n_Ratio_top rfl (by show 0 < 900; decide) ?_
    repeat walk_at "wk"
    · refine ws_fld rfl T.o_Ratio.cls T.n_Ratio_bottom rfl (by show 1 < 900; decide) ?_
      repeat walk_at "wk"
      · refine ⟨_, rfl, ?_⟩
        rw [show ((Int.gcd t b : Nat) : Int) = G t b from rfl, e1, e2]
        exact q
      · exact cdivx (show G t b ≠ 0 by omega) zg (by decide) (by decide)
    · exact cdivx (show G t b ≠ 0 by omega) zg (by decide) (by decide)
  · rw [if_neg h0] at e1 e2
    repeat walk_at "wk"
    refine ws_fld rfl T.o_Ratio.cls T.n_Ratio_top rfl (by show 0 < 900; decide) ?_
    repeat walk_at "wk"
    · refine ws_fld rfl T.o_Ratio.cls T.n_Ratio_bottom rfl (by show 1 < 900; decide) ?_
      repeat walk_at "wk"
      · refine ⟨_, rfl, ?_⟩
        rw [show ((Int.gcd t b : Nat) : Int) = G t b from rfl, e1, e2]
        exact q
      · exact cdivx (show -G t b ≠ 0 by omega) (sz_neg zg) (by decide) (by decide)
    · exact cdivx (show -G t b ≠ 0 by omega) (sz_neg zg) (by decide) (by decide)
theorem m_Ratio2 (T : Txt W.K W.mg a) : Mak W 2 "Ratio" a.Ratio (spI a.Ratio false (bRatio a.Ratio)) [] := by
  obtain ⟨f, fd, F, M, ok⟩ := k_init T
  obtain ⟨ds, d, b⟩ := F.binds1 (ps := ["self", "top", "bottom"]) 3 1 (by decide) (by decide) (fun T kV doc pm an cdv ct us its hl hi => match us, hl, its, hi with | [_, _, _], _, [_], _ => ⟨_, rfl, rfl⟩)
  exact ⟨f, fd, _, ds, M, ok, T.o_Ratio.mg, b, d⟩
theorem m_Ratio1 (T : Txt W.K W.mg a) : Mak W 2 "Ratio" a.Ratio (spI a.Ratio false (bRatio a.Ratio)) [.int 1] := by
  obtain ⟨f, fd, F, M, ok⟩ := k_init T
  obtain ⟨ds, d, b⟩ := F.binds1 (ps := ["self", "top", "bottom"]) 2 0 (by decide) (by decide) (fun T kV doc pm an cdv ct us its hl hi => match us, hl, its, hi with | [_, _], _, [_], _ => ⟨_, rfl, rfl⟩)
  exact ⟨f, fd, _, ds, M, ok, T.o_Ratio.mg, b, d⟩
theorem sm_of (T : Txt W.K W.mg a) : Sm W 4 a.Ratio "of" (spW false (bOf a.Ratio)) := by
  refine sm_W T.d_Ratio_of sc_Ratio_of bd_Ratio_of (fun rs k ⟨_, _, h, _⟩ => by rw [h]; rfl) (body_W (n := 1) (m := 0) rfl (fun rs k ⟨_, _, h, _⟩ => by rw [h]; rfl) fun f cdv A outer s H E hr => ⟨_, (pss_one (ps_ret (pe_ifExp (pt_val (pe_callB (r := rIsi W.K) call_isi (by rfl) T.b_isinstance (by decide +kernel) (pa_cons (pv 0) (pa_cons (pe_gn (v := .ref a.Ratio) (by rfl) T.o_Ratio.mg rfl) pa_nil)))) (pv 0) (pe_mak (m_Ratio1 T) hr (by decide) rfl (pa_cons (pv 0) pa_nil))))), fun π rs kr hp hB => ?_⟩)
  obtain ⟨d, q, rfl, n, z, h⟩ := hB
  dsimp only [uns, List.replicate, List.cons_append, List.nil_append]
  cases n with
  | int i =>
    repeat walk_at "wk"
    refine wcb_isiC rfl T.o_Ratio.kI ?_
    repeat walk_at "wk"
    refine w_ratio1 ?_
    repeat walk_at "wk"
    exact ⟨i, rfl, sz_mono z (by decide), out_d h⟩
  | rat q =>
    repeat walk_at "wk"
    refine wcb_isiO T.o_Ratio ?_
    repeat walk_at "wk"
    exact h
def bBin (C : Addr) (pre : Rat → Rat → Prop) (f : Rat → Rat → Rat) (rs : List Rv) (k : Rv → Prop) : Prop := ∃ p d q, rs = [.d (ratQ C p), .d d] ∧ NumQ C d q ∧ SzQ 4000 p ∧ SzQ 4000 q ∧ pre p q ∧ k (.d (ratQ C (f p q)))
theorem pp_top (T : Txt W.K W.mg a) : Pp W 1 a.Ratio "top" (spW false (bTop a.Ratio)) := by
  refine pp_W T.d_Ratio_top sc_Ratio_top bd_Ratio_top (fun rs k ⟨_, h, _⟩ => by rw [h]; rfl) (body_W (n := 1) (m := 0) rfl (fun rs k ⟨_, h, _⟩ => by rw [h]; rfl) fun f cdv A outer s H E hr => ⟨_, (pss_one (ps_ret (pe_fldK (K := W.K) rfl (pv 0) rfl))), fun π rs kr hp hB => ?_⟩)
  obtain ⟨q, rfl, h⟩ := hB
  dsimp only [uns, List.replicate, List.cons_append, List.nil_append]
  repeat walk_at "wk"
  exact ⟨a.Ratio, _, _, rfl, T.o_Ratio.cls, T.n_Ratio_top, rfl, out_d h⟩
theorem pp_bottom (T : Txt W.K W.mg a) : Pp W 1 a.Ratio "bottom" (spW false (bBot a.Ratio)) := by
  refine pp_W T.d_Ratio_bottom sc_Ratio_bottom bd_Ratio_bottom (fun rs k ⟨_, h, _⟩ => by rw [h]; rfl) (body_W (n := 1) (m := 0) rfl (fun rs k ⟨_, h, _⟩ => by rw [h]; rfl) fun f cdv A outer s H E hr => ⟨_, (pss_one (ps_ret (pe_fldK (K := W.K) rfl (pv 0) rfl))), fun π rs kr hp hB => ?_⟩)
  obtain ⟨q, rfl, h⟩ := hB
  dsimp only [uns, List.replicate, List.cons_append, List.nil_append]
  repeat walk_at "wk"
  exact ⟨a.Ratio, _, _, rfl, T.o_Ratio.cls, T.n_Ratio_bottom, by rfl, out_d h⟩
theorem mt_over (T : Txt W.K W.mg a) : Mt W 5 a.Ratio "over" (spW false (bBin a.Ratio (fun _ q => q ≠ 0) (· / ·))) := by
  refine mt_W T.d_Ratio_over sc_Ratio_over bd_Ratio_over (fun rs k ⟨_, _, _, h, _⟩ => by rw [h]; rfl) (body_W (n := 2) (m := 1) rfl (fun rs k ⟨_, _, _, h, _⟩ => by rw [h]; rfl) fun f cdv A outer s H E hr => ⟨_, (pss_cons (ps_set (i := 2) sc_Ratio_over.nd rfl (Or.inl rfl) (pe_sm (sm_of T) hr (by decide) (pe_gn (v := .ref a.Ratio) (by rfl) T.o_Ratio.mg rfl) (pa_cons (pv 1) pa_nil))) (pss_cons (ps_if (pt_cmpR (r := rEqU W.K) (op_eqU hr.units) (pe_pp T.o_Ratio.cls (pp_top T) hr (by decide) (pv 2) rfl) pe_int (nomark _)) (pss_one ps_never) pss_nil) (pss_one (ps_ret (pe_mak (m_Ratio2 T) hr (by decide) rfl (pa_cons (pe_op op_mulU (pe_fldK (K := W.K) rfl (pv 0) rfl) (pe_pp T.o_Ratio.cls (pp_bottom T) hr (by decide) (pv 2) rfl)) (pa_cons (pe_op op_mulU (pe_fldK (K := W.K) rfl (pv 0) rfl) (pe_pp T.o_Ratio.cls (pp_top T) hr (by decide) (pv 2) rfl)) pa_nil))))))), fun π rs kr hp hB => ?_⟩)
  obtain ⟨p, d, q, rfl, n, zp, zq, hq, h⟩ := hB
  dsimp only [uns, List.replicate, List.cons_append, List.nil_append]
  repeat walk_at "wk"
  refine wcb_of n zq.1 ?_
  have cR := T.o_Ratio.cls
  have nT := T.n_Ratio_top
  have nB := T.n_Ratio_bottom
  have hn : q.num ≠ 0 := fun z => hq (Rat.num_eq_zero.mp z)
  repeat walk_at "wk"
  refine ite_d (fun z => (hn z).elim) fun _ => ?_
  repeat walk_at "wk"
  refine w_ratio2 ?_
  repeat walk_at "wk"
  · trace_state
    refine ⟨_, _, rfl, Int.mul_ne_zero (Int.ne_of_gt (den_pos p)) hn, sz_mono (sz_mul zp.1 zq.2) (by decide), sz_mono (sz_mul zp.2 zq.1) (by decide), out_d ?_⟩
    rw [div_q]
    exact h
  all_goals first
    | exact cmul_sz zp.1 zq.2
    | exact cmul_sz zp.2 zq.1
end Lw
namespace Dt
open PySem PySem.Spec PyProof.Rows L2 Ly
theorem ats_keys {H : Hp} : ∀ {ks : List Key} {vs : List V}, Ats H vs (ks.map dKey) → vs = ks.map kV
  | [], _, a => by cases a; rfl
  | .inl i :: ks, _, a => by cases a with | cons a t => cases a; rw [ats_keys t]; rfl
  | .inr i :: ks, _, a => by cases a with | cons a t => cases a; rw [ats_keys t]; rfl
def rDc (J : L2.It) (g : TG) (tt : TT) (tk tv : TE) (vs : List Nat) (σ : L2.St) (H1 : Hp) (Q : VK) : Prop := ∀ D : Addr, H1 D = none → ∃ W : Nat → Nat → Hp → Prop, (∃ m, W 0 m (L2.upd H1 D (.dK []))) ∧ ∀ (i m : Nat) (H : Hp), W i m H →
  (J.stop i H ∧ Q (.ref D) H) ∨ (J.go i H ∧ ∃ Nx : Hp → Prop, (∀ H', Nx H' → ∃ m', m' < m ∧ W (i + 1) m' H') ∧ ∀ (x : V) (H' : Hp), J.yld i H x H' → g x (wipe σ vs) H' fun σ2 H2 => wipe σ2 vs = wipe σ vs ∧ tt σ2 H2 fun b H3 =>
    if b = true then tk σ2 H3 fun y H4 => tv σ2 H4 fun z H5 => ∃ kvs k, y = kV k ∧ H5 D = some (.dK kvs) ∧ kvs.length < sizeLine ∧ Nx (L2.upd H5 D (.dK (putK kvs k z))) else Nx H3)
section
variable {π : Po} {δ : List Rv} {k : Rv → Prop} {wi wi1 : TI} {g g1 : TG} {tt tt1 : TT} {te tk tv td : TE} {vs vs1 : List Nat}
def DcK (π : Po) (g : TG) (tt : TT) (tk tv : TE) (vs : List Nat) (k : Rv → Prop) (δ : List Rv) (ds : List D) : Prop := ∃ I : Nat → List (Key × D) → Prop, I 0 [] ∧ (∀ (i : Nat) (d : D) (acc : List (Key × D)), ds[i]? = some d → I i acc →
      WgE π g d (wipeD δ vs) fun δ2 => WpT π tt δ2 fun b => if b = true then Wp π tk δ2 fun r => Wp π tv δ2 fun s => ∃ y z x, r = .d y ∧ keyD y = some z ∧ s.fz = some x ∧ acc.length < 4000 ∧ I (i + 1) (putD acc z x) else I (i + 1) acc) ∧ ∀ acc, I ds.length acc → k (.new (.dct acc))
theorem dc_at {X : Xs} {H H1 : Hp} {σ : L2.St} {Q : VK} {J : L2.It} {Z : Hp → Prop} {ds : List D} (hg : GN g vs) (o : Ok π X H) (e1 : Ev π X H1 σ δ) (k1 : Kp π H H1) (it : Itw π J X H1 Z ds) (hZ : ∀ H', Kp π H1 H' → Z H') (w : DcK π g tt tk tv vs k δ ds)
    (h : ∀ v r H', Kp π H H' → RAt π X H H' r v → k r → Q v H') : rDc J g tt tk tv vs σ H1 Q := by
  obtain ⟨I, i0, turn, fin⟩ := w
  intro D nD
  have o1 := o.keep k1
  have nX : ¬ X D := fun z => o1.dom D z nD
  have okD : ∀ H', Kp π H1 H' → H' D ≠ none → Ok π (plus X D) H' := fun H' k2 hD => ⟨fun p z => z.elim ((o1.keep k2).dom p) fun z => by rw [z]; exact hD, fun q e => ⟨.inl (o1.pot q e).1, k2.pot q e⟩⟩
  have npD : π ≠ some D := fun z => nX (o1.pot D z).1
  refine ⟨fun i m H' => m = ds.length - i ∧ i ≤ ds.length ∧ ∃ acc kv, H' D = some (.dK kv) ∧ kv.map (·.1) = acc.map (·.1) ∧ Ats (cut (plus X D) H') (kv.map (·.2)) (acc.map (·.2)) ∧ Kp π H1 H' ∧ I i acc, ⟨_, rfl, Nat.zero_le _, [], [], upd_same, rfl, .nil, o1.kp.add o1 nD, i0⟩, ?_⟩
  rintro i m H' ⟨rfl, hi, acc, kv, hD, ek, ha, k2, hI⟩
  have oD := okD H' k2 (by rw [hD]; exact fun z => by cases z)
  have fD : Fr X H1 (plus X D) H' := ⟨cut_keep (fun a u n e => k2.keep a u (fun z => n (o1.pot a z).1) e) fun a u n e z => z.elim n (ne_of_none e nD), fun a h e => h (k2.free o1 e)⟩
  by_cases hlt : i < ds.length
  · obtain ⟨hg1, hy⟩ := it.go i (plus X D) H' fD (hZ H' k2) hlt
    refine .inr ⟨hg1, fun H2 => i + 1 ≤ ds.length ∧ ∃ acc kv, H2 D = some (.dK kv) ∧ kv.map (·.1) = acc.map (·.1) ∧ Ats (cut (plus X D) H2) (kv.map (·.2)) (acc.map (·.2)) ∧ Kp π H1 H2 ∧ I (i + 1) acc, fun H2 z => ⟨ds.length - (i + 1), by omega, rfl, z⟩, fun x H'' y => ?_⟩
    obtain ⟨k3, d, hd, ad⟩ := hy x H'' y oD
    have o3 := oD.keep k3
    have hD3 := k3.keep D _ npD hD
    have ha3 := ha.mono (oD.mo k3)
    have ev' : Ev π (plus X D) H'' (L2.wipe σ vs) (wipeD δ vs) := by
      have z := e1.wipe vs
      exact ⟨z.len, fun j s o h1 h2 => (z.at_ j s o h1 h2).part o1 (k2.trans k3) nD, z.nd⟩
    have main := hg x _ _ _ (turn i d acc hd hI (plus X D) H'' (L2.wipe σ vs) x (fun σ2 H2 => tt σ2 H2 fun b H3 =>
      if b = true then tk σ2 H3 fun y H4 => tv σ2 H4 fun z H5 => ∃ kvs k, y = kV k ∧ H5 D = some (.dK kvs) ∧ kvs.length < sizeLine ∧ (i + 1 ≤ ds.length ∧ ∃ acc2 kv, (L2.upd H5 D (.dK (putK kvs k z))) D = some (.dK kv) ∧ kv.map (·.1) = acc2.map (·.1) ∧ Ats (cut (plus X D) (L2.upd H5 D (.dK (putK kvs k z)))) (kv.map (·.2)) (acc2.map (·.2)) ∧ Kp π H1 (L2.upd H5 D (.dK (putK kvs k z))) ∧ I (i + 1) acc2)
      else i + 1 ≤ ds.length ∧ ∃ acc kv, H3 D = some (.dK kv) ∧ kv.map (·.1) = acc.map (·.1) ∧ Ats (cut (plus X D) H3) (kv.map (·.2)) (acc.map (·.2)) ∧ Kp π H1 H3 ∧ I (i + 1) acc) o3 ev' ad fun σ3 δ3 ev3 s3 w3 => ?_)
    · rw [wipe_idem] at main
      exact main
    · refine w3 (plus X D) H'' σ3 _ o3 ev3 fun b H3 k4 w4 => ?_
      have o4 := o3.keep k4
      have hD4 := k4.keep D _ npD hD3
      have ha4 := ha3.mono (o3.mo k4)
      have k24 := (k2.trans k3).trans k4
      have ev4 := ev3.keep o3 k4
      dsimp only at w4
      split at w4
      · rw [if_pos ‹_›]
        refine w4 (plus X D) H3 σ3 _ o4 ev4 fun y r H4 k5 a w5 => ?_
        have o5 := o4.keep k5
        refine w5 (plus X D) H4 σ3 _ o5 (ev4.keep o4 k5) fun z s H5 k6 a2 w6 => ?_
        obtain ⟨y2, z2, x2, rfl, hy2, hf, hz, hI2⟩ := w6
        have az := a2.fz o5 hf
        have hD5 := k6.keep D _ npD (k5.keep D _ npD hD4)
        have ha5 := (ha4.mono (o4.mo k5)).mono (o5.mo k6)
        have ey := keyD_at a hy2
        have hl : kv.length = acc.length := by simpa using congrArg List.length ek
        have mo5 : Mo (cut (plus X D) H5) (cut (plus X D) (L2.upd H5 D (.dK (putK kv z2 z)))) := cut_keep (fun a u n e => by rw [upd_ne (fun z => n (.inr z))]; exact e) fun _ _ n _ => n
        obtain ⟨p1, p2⟩ := put_at (k := z2) az ek ha5
        refine ⟨kv, z2, ey, hD5, by rw [hl]; exact Nat.lt_of_lt_of_le hz (by decide), hlt, putD acc z2 x2, putK kv z2 z, upd_same, p1, p2.mono mo5, ⟨fun a u n e => ?_, fun q e => ?_⟩, hI2⟩
        · rw [upd_ne (ne_of_none e nD)]
          exact ((k24.trans k5).trans k6).keep a u n e
        · obtain ⟨a, b, h', g⟩ := k6.pot q e
          exact ⟨a, b, by rw [upd_ne (fun z => npD (by rw [e, z]))]; exact h', g⟩
      · rw [if_neg ‹_›]
        exact ⟨hlt, acc, kv, hD4, ek, ha4, k24, w4⟩
  · have e : i = ds.length := by omega
    refine .inl ⟨it.stop i (plus X D) H' fD (hZ H' k2) (by omega), ?_⟩
    exact h (.ref D) (.new (.dct acc)) H' (k1.trans k2) ⟨D, rfl, k1.free o nD, kv, hD, ek, ha⟩ (fin acc (e ▸ hI))
theorem w_dc (hg : GN g vs) (q : WpI π wi δ fun ds => DcK π g tt tk tv vs k δ ds) : Wp π (tDc wi g tt tk tv vs) δ k := fun X H σ Q o e h => by
  refine q X H σ _ o e fun J H1 ds k1 it w => ?_
  exact dc_at hg o (e.keep o k1) k1 it (fun _ _ => trivial) w h
/-- two clauses, keys tuples -/
def Dc2K (π : Po) (g : TG) (tt : TT) (wi1 : TI) (g1 : TG) (tt1 : TT) (tk tv : TE) (vs vs1 : List Nat) (k : Rv → Prop) (δ : List Rv) (ds : List D) : Prop := ∃ I : Nat → List (List Key × D) → Prop, I 0 [] ∧ (∀ (i : Nat) (d : D) (acc : List (List Key × D)), ds[i]? = some d → I i acc →
      WgE π g d (wipeD δ vs) fun δ2 => WpT π tt δ2 fun b => if b = true then WpI π wi1 δ2 fun ds1 => ∃ I1 : Nat → List (List Key × D) → Prop, I1 0 acc ∧ (∀ (j : Nat) (d1 : D) (acc1 : List (List Key × D)), ds1[j]? = some d1 → I1 j acc1 →
        WgE π g1 d1 (wipeD δ2 vs1) fun δ3 => WpT π tt1 δ3 fun b => if b = true then Wp π tk δ3 fun r => Wp π tv δ3 fun s => ∃ ks x, r = .d (.tup (ks.map dKey)) ∧ s.fz = some x ∧ acc1.length < 4000 ∧ I1 (j + 1) (putD acc1 ks x) else I1 (j + 1) acc1) ∧ ∀ acc1, I1 ds1.length acc1 → I (i + 1) acc1
      else I (i + 1) acc) ∧ ∀ acc, I ds.length acc → k (.new (.dcT acc))
theorem w_dc2 (hg : GN g vs) (hg1 : GN g1 vs1) (q : WpI π wi δ fun ds => Dc2K π g tt wi1 g1 tt1 tk tv vs vs1 k δ ds) : Wp π (tDc2 wi g tt wi1 g1 tt1 tk tv vs vs1) δ k := fun X H σ Q o e h => by
  refine q X H σ _ o e fun J H1 ds k1 it w => ?_
  obtain ⟨I, i0, turn, fin⟩ := w
  intro D nD
  have e1 := e.keep o k1
  have o1 := o.keep k1
  have nX : ¬ X D := fun z => o1.dom D z nD
  have okD : ∀ H', Kp π H1 H' → H' D ≠ none → Ok π (plus X D) H' := fun H' k2 hD => ⟨fun p z => z.elim ((o1.keep k2).dom p) fun z => by rw [z]; exact hD, fun q e => ⟨.inl (o1.pot q e).1, k2.pot q e⟩⟩
  have npD : π ≠ some D := fun z => nX (o1.pot D z).1
  let St (I : List (List Key × Dt.D) → Prop) (H' : Hp) : Prop := ∃ acc kv, H' D = some (.dT kv) ∧ kv.map (·.1) = acc.map (·.1) ∧ Ats (cut (plus X D) H') (kv.map (·.2)) (acc.map (·.2)) ∧ Kp π H1 H' ∧ I acc
  refine ⟨fun i m H' => m = ds.length - i ∧ i ≤ ds.length ∧ St (I i) H', ⟨_, rfl, Nat.zero_le _, [], [], upd_same, rfl, .nil, o1.kp.add o1 nD, i0⟩, ?_⟩
  rintro i m H' ⟨rfl, hi, acc, kv, hD, ek, ha, k2, hI⟩
  have oD := okD H' k2 (by rw [hD]; exact fun z => by cases z)
  have fD : Fr X H1 (plus X D) H' := ⟨cut_keep (fun a u n e => k2.keep a u (fun z => n (o1.pot a z).1) e) fun a u n e z => z.elim n (ne_of_none e nD), fun a h e => h (k2.free o1 e)⟩
  by_cases hlt : i < ds.length
  · obtain ⟨hgo, hy⟩ := it.go i (plus X D) H' fD trivial hlt
    refine .inr ⟨hgo, fun H2 => i + 1 ≤ ds.length ∧ St (I (i + 1)) H2, fun H2 z => ⟨ds.length - (i + 1), by omega, rfl, z⟩, fun x H'' y => ?_⟩
    obtain ⟨k3, d, hd, ad⟩ := hy x H'' y oD
    have o3 := oD.keep k3
    have hD3 := k3.keep D _ npD hD
    have ha3 := ha.mono (oD.mo k3)
    have ev' : Ev π (plus X D) H'' (L2.wipe σ vs) (wipeD δ vs) := by
      have z := e1.wipe vs
      exact ⟨z.len, fun j s o h1 h2 => (z.at_ j s o h1 h2).part o1 (k2.trans k3) nD, z.nd⟩
    have main := hg x _ _ _ (turn i d acc hd hI (plus X D) H'' (L2.wipe σ vs) x (fun σ2 H2 => tt σ2 H2 fun b H3 =>
      if b = true then wi1 σ2 H3 fun J1 H4 => ∃ W1 : Nat → Nat → Hp → Prop, (∃ m, W1 0 m H4) ∧ ∀ j k H, W1 j k H →
        (J1.stop j H ∧ (i + 1 ≤ ds.length ∧ St (I (i + 1)) H)) ∨ (J1.go j H ∧ ∃ Nx1 : Hp → Prop, (∀ H', Nx1 H' → ∃ k', k' < k ∧ W1 (j + 1) k' H') ∧ ∀ x H', J1.yld j H x H' → g1 x (wipe σ2 vs1) H' fun σ3 H5 => wipe σ3 vs1 = wipe σ2 vs1 ∧ tt1 σ3 H5 fun b H6 =>
          if b = true then tk σ3 H6 fun y H7 => tv σ3 H7 fun z H8 => ∃ kvs k t, y = .ref t ∧ H8 t = some (.tup (k.map kV)) ∧ H8 D = some (.dT kvs) ∧ kvs.length < sizeLine ∧ Nx1 (L2.upd H8 D (.dT (putK kvs k z))) else Nx1 H6)
      else i + 1 ≤ ds.length ∧ St (I (i + 1)) H3) o3 ev' ad fun σ3 δ3 ev3 s3 w3 => ?_)
    · rw [wipe_idem] at main
      exact main
    · refine w3 (plus X D) H'' σ3 _ o3 ev3 fun b H3 k4 w4 => ?_
      have o4 := o3.keep k4
      have hD4 := k4.keep D _ npD hD3
      have ha4 := ha3.mono (o3.mo k4)
      have k24 := (k2.trans k3).trans k4
      have ev4 := ev3.keep o3 k4
      dsimp only at w4
      split at w4
      · rw [if_pos ‹_›]
        refine w4 (plus X D) H3 σ3 _ o4 ev4 fun J1 H4 ds1 k5 it1 w5 => ?_
        obtain ⟨I1, j0, turn1, fin1⟩ := w5
        have o5 := o4.keep k5
        have ev5 := ev4.keep o4 k5
        have k25 := k24.trans k5
        refine ⟨fun j m H' => m = ds1.length - j ∧ j ≤ ds1.length ∧ Fr (plus X D) H4 (plus X D) H' ∧ St (I1 j) H', ⟨_, rfl, Nat.zero_le _, Fr.refl _ _, acc, kv, k5.keep D _ npD hD4, ek, ha4.mono (o4.mo k5), k25, j0⟩, ?_⟩
        rintro j m H6 ⟨rfl, hj, f6, acc1, kv1, hD6, ek6, ha6, k6, hI1⟩
        have o6 := okD H6 k6 (by rw [hD6]; exact fun z => by cases z)
        by_cases hlt1 : j < ds1.length
        · obtain ⟨hgo1, hy1⟩ := it1.go j (plus X D) H6 f6 trivial hlt1
          refine .inr ⟨hgo1, fun H2 => j + 1 ≤ ds1.length ∧ Fr (plus X D) H4 (plus X D) H2 ∧ St (I1 (j + 1)) H2, fun H2 z => ⟨ds1.length - (j + 1), by omega, rfl, z⟩, fun x1 H7 y1 => ?_⟩
          obtain ⟨k7, d1, hd1, ad1⟩ := hy1 x1 H7 y1 o6
          have o7 := o6.keep k7
          have hD7 := k7.keep D _ npD hD6
          have ha7 := ha6.mono (o6.mo k7)
          have f7 := f6.trans (o6.fr k7)
          -- the names at H7
          have ev7 : Ev π (plus X D) H7 (L2.wipe σ3 vs1) (wipeD δ3 vs1) := by
            have z := ev5.wipe vs1
            refine ⟨z.len, fun l s o h1 h2 => ?_, z.nd⟩
            have hs := z.at_ l s o h1 h2
            cases s with
            | un => trivial
            | d x => obtain ⟨v, e, a⟩ := hs; exact ⟨v, e, a.mono f7.mo⟩
            | own p x =>
              obtain ⟨v, e, rfl, xp, np, t⟩ := hs
              have px : X p := by
                have z0 := e1.wipe vs
                exact xp.elim id fun z => by
                  subst z
                  exfalso
                  obtain ⟨m0, hm0⟩ : ∃ m0, (wipeD δ vs)[m0]? = some (Rv.own p x) := by
                    have h1' : ∀ vs1 : List Nat, (wipeD δ3 vs1)[l]? = some (Rv.own p x) → δ3[l]? = some (Rv.own p x) := by
                      intro vs1
                      induction vs1 with
                      | nil => exact id
                      | cons u us ih =>
                        intro hh
                        rcases set_get hh with ⟨_, z⟩ | ⟨_, z⟩
                        · cases z
                        · exact ih z
                    exact ⟨l, s3 l _ _ (h1' vs1 h1) rfl⟩
                  obtain ⟨v', _, e', xp', _, _⟩ := z0.get hm0 (fun z => by cases z)
                  exact nX xp'
              have hk : ∀ u, H4 p = some u → H7 p = some u := fun u hu => by
                have hne : p ≠ D := fun z => nX (by rw [← z]; exact px)
                cases h1p : H1 p with
                | none => exact absurd h1p (o1.dom p px)
                | some u1 =>
                  have a4 := k25.keep p u1 np h1p
                  rw [hu] at a4
                  cases a4
                  exact (k6.trans k7).keep p u np h1p
              exact ⟨_, e, rfl, xp, np, t.keep hk f7.mo⟩
            | new x =>
              obtain ⟨v, e, p, _, n, t⟩ := hs
              exact absurd n t.some
            | pot => exact hs
            | raw w => exact hs
          have main1 := hg1 x1 _ _ _ (turn1 j d1 acc1 hd1 hI1 (plus X D) H7 (L2.wipe σ3 vs1) x1 (fun σ3 H5 => tt1 σ3 H5 fun b H6 =>
            if b = true then tk σ3 H6 fun y H7 => tv σ3 H7 fun z H8 => ∃ kvs k t, y = .ref t ∧ H8 t = some (.tup (k.map kV)) ∧ H8 D = some (.dT kvs) ∧ kvs.length < sizeLine ∧ (j + 1 ≤ ds1.length ∧ Fr (plus X D) H4 (plus X D) (L2.upd H8 D (.dT (putK kvs k z))) ∧ St (I1 (j + 1)) (L2.upd H8 D (.dT (putK kvs k z)))) else j + 1 ≤ ds1.length ∧ Fr (plus X D) H4 (plus X D) H6 ∧ St (I1 (j + 1)) H6) o7 ev7 ad1 fun σ8 δ8 ev8 s8 w8 => ?_)
          · rw [wipe_idem] at main1
            exact main1
          · refine w8 (plus X D) H7 σ8 _ o7 ev8 fun b1 H8 k8 w9 => ?_
            have o8 := o7.keep k8
            have hD8 := k8.keep D _ npD hD7
            have ha8 := ha7.mono (o7.mo k8)
            have k28 := (k6.trans k7).trans k8
            have f8 := f7.trans (o7.fr k8)
            have ev9 := ev8.keep o7 k8
            dsimp only at w9
            split at w9
            · rw [if_pos ‹_›]
              refine w9 (plus X D) H8 σ8 _ o8 ev9 fun y r H9 k9 a w10 => ?_
              have o9 := o8.keep k9
              refine w10 (plus X D) H9 σ8 _ o9 (ev9.keep o8 k9) fun z s H10 k10 a2 w11 => ?_
              obtain ⟨ks, x2, rfl, hf, hz, hI2⟩ := w11
              have az := a2.fz o9 hf
              have a10 : At (cut (plus X D) H10) y (.tup (ks.map dKey)) := At.mono (o9.mo k10) a
              have hD10 := k10.keep D _ npD (k9.keep D _ npD hD8)
              have ha10 := (ha8.mono (o8.mo k9)).mono (o9.mo k10)
              have f10 := (f8.trans (o8.fr k9)).trans (o9.fr k10)
              have hl : kv1.length = acc1.length := by simpa using congrArg List.length ek6
              have mo5 : Mo (cut (plus X D) H10) (cut (plus X D) (L2.upd H10 D (.dT (putK kv1 ks z)))) := cut_keep (fun a u n e => by rw [upd_ne (fun z => n (.inr z))]; exact e) fun _ _ n _ => n
              obtain ⟨p1, p2⟩ := put_at (k := ks) az ek6 ha10
              cases a10 with
              | tup ht tt2 =>
                have zt := ats_keys tt2
                subst zt
                refine ⟨kv1, ks, _, rfl, (of_cut ht).2, hD10, by rw [hl]; exact Nat.lt_of_lt_of_le hz (by decide), hlt1, f10.trans ⟨mo5, fun a h => ?_⟩, putD acc1 ks x2, putK kv1 ks z, upd_same, p1, p2.mono mo5, ⟨fun a u n e => ?_, fun q e => ?_⟩, hI2⟩
                · by_cases ha : a = D
                  · rw [ha, upd_same]; exact fun z => by cases z
                  · rw [upd_ne ha]; exact h
                · rw [upd_ne (ne_of_none e nD)]
                  exact ((k28.trans k9).trans k10).keep a u n e
                · obtain ⟨a, b, h', g⟩ := k10.pot q e
                  exact ⟨a, b, by rw [upd_ne (fun z => npD (by rw [e, z]))]; exact h', g⟩
            · rw [if_neg ‹_›]
              exact ⟨hlt1, f8, acc1, kv1, hD8, ek6, ha8, k28, w9⟩
        · have ej : j = ds1.length := by omega
          exact .inl ⟨it1.stop j (plus X D) H6 f6 trivial (by omega), hlt, acc1, kv1, hD6, ek6, ha6, k6, fin1 acc1 (ej ▸ hI1)⟩
      · rw [if_neg ‹_›]
        exact ⟨hlt, acc, kv, hD4, ek, ha4, k24, w4⟩
  · have ei : i = ds.length := by omega
    refine .inl ⟨it.stop i (plus X D) H' fD trivial (by omega), ?_⟩
    exact h (.ref D) (.new (.dcT acc)) H' (k1.trans k2) ⟨D, rfl, k1.free o nD, kv, hD, ek, ha⟩ (fin acc (ei ▸ hI))
end
end Dt
namespace GR
open PySem PySem.Spec PyProof.Rows L2 Ly
open Builtin Builtin.List
theorem weight_loop (args : Args) : (Code.builtin "list.__repr__.loop" args).weight = 1 := by kernel_rfl
theorem weight_tup (args : Args) : (Code.builtin "tuple.__repr__" args).weight = 1 := by kernel_rfl
theorem weight_tupU (args : Args) : (Code.builtin "tuple.__repr__.under" args).weight = 1 := by kernel_rfl
theorem under_ok {j : Nat} {A : Around} {id : String} {args : Args} (hw : (Code.builtin id args).weight = 1) (hu : (A.under (.builtin id args)).units = A.units + 1) (r : Room (j + 1) A) : (A.under (.builtin id args)).frames = A.frames ∧ Room j (A.under (.builtin id args)) := by
  refine ⟨by simp [Around.under, Code.envs, Code.isFrame, pushEnvs], ⟨by have := r.hd; simpa [Around.under] using this, ?_, by have := r.un; rw [hu]; omega⟩⟩
  have := r.dp
  have e : (A.under (.builtin id args)).depth = A.depth + 1 := by simp [Around.under, hw]
  rw [e]
  omega
/-- what a value's repr is, whatever is under way: j levels of own code -/
def Sh (X : Cx) (j : Nat) (pins : List (Addr × Obj)) (σ : L2.St) (as : List Addr) (H0 : Hp) (x : Value) (t : Str) : Prop :=
  ∀ (base : Nat), base + t.length ≤ sizeLine → ∀ (A : Around) (g : List Code) (E : Value → Shared → Prop) (s : Shared) (H : Hp) (Q : Str → Shared → Prop), A.guards = some g → (∀ b ∈ as, Clear g b) → A.frames = X.A.frames → Room j A → Inv X pins σ H s → Same H0 H →
    (∀ s' H', Inv X pins σ H' s' → Same H H' → Q t s') → wpAny (model X.prog X.w) A (pyReprUnder base x) Q E s
def ShV (X : Cx) (j : Nat) (pins : List (Addr × Obj)) (σ : L2.St) (as : List Addr) (H0 : Hp) (v : V) (t : Str) : Prop := ∀ u, RelV v u → Sh X j pins σ as H0 u t
section
variable {X : Cx} {j : Nat} {pins : List (Addr × Obj)} {σ : L2.St} {as : List Addr} {H0 : Hp}
theorem Sh.of_is {x : Value} {t : Str} (h : ReprIs X.prog X.w x t) : Sh X j pins σ as H0 x t := fun base hb A _ E s H Q _ _ _ _ I S q => h base hb A E s Q fun tk => q _ H (I.tok tk) (.refl H)
theorem ShV.int {i : Int} (h : i.natAbs.log2 < 1920) : ShV X j pins σ as H0 (.int i) (toString i) := fun u r => by
  obtain ⟨t, rfl⟩ := r
  exact .of_is (.int t h)
theorem ShV.str {x : Str} (h : (reprText x).length ≤ sizeLine) : ShV X j pins σ as H0 (.str x) (reprText x) := fun u r => by
  obtain ⟨t, rfl⟩ := r
  exact .of_is (.str x t h)
theorem ShV.bl {b : Bool} : ShV X j pins σ as H0 (.bl b) (if b then "True" else "False") := fun u r => by
  cases (show u = .bool b from r)
  exact .of_is (.bool b)
theorem ShV.non : ShV X j pins σ as H0 .non "None" := fun u r => by
  cases (show u = .none from r)
  exact .of_is .none
theorem Sh.up {k : Nat} {as' : List Addr} {H0' : Hp} {x : Value} {t : Str} (h : Sh X j pins σ as H0 x t) (hk : j ≤ k) (ha : ∀ b ∈ as, b ∈ as') (s : Same H0 H0') : Sh X k pins σ as' H0' x t :=
  fun base hb A g E s1 H Q hg hc hf hr I S q => h base hb A g E s1 H Q hg (fun b m => hc b (ha b m)) hf (hr.mono hk) I (s.trans S) q
theorem ShV.up {k : Nat} {as' : List Addr} {H0' : Hp} {x : V} {t : Str} (h : ShV X j pins σ as H0 x t) (hk : j ≤ k) (ha : ∀ b ∈ as, b ∈ as') (s : Same H0 H0') : ShV X k pins σ as' H0' x t := fun u r => (h u r).up hk ha s
inductive ShVs (X : Cx) (j : Nat) (pins : List (Addr × Obj)) (σ : L2.St) (as : List Addr) (H0 : Hp) : List V → List Str → Prop
  | nil : ShVs X j pins σ as H0 [] []
  | cons {x : V} {t : Str} {l : List V} {ts : List Str} : ShV X j pins σ as H0 x t → ShVs X j pins σ as H0 l ts → ShVs X j pins σ as H0 (x :: l) (t :: ts)
theorem ShVs.length : ∀ {l : List V} {ts : List Str}, ShVs X j pins σ as H0 l ts → ts.length = l.length
  | _, _, .nil => rfl
  | _, _, .cons _ h => by simp [h.length]
theorem ShVs.get : ∀ {l : List V} {ts : List Str} {i : Nat} {v : V}, ShVs X j pins σ as H0 l ts → l[i]? = some v → ∃ t, ts[i]? = some t ∧ ShV X j pins σ as H0 v t
  | _, _, _, _, .nil, e => by simp at e
  | _, _, 0, _, .cons h _, e => by simp at e; subst e; exact ⟨_, rfl, h⟩
  | _, _, i + 1, v, .cons _ t, e => by
    obtain ⟨d, h1, h2⟩ := t.get (i := i) (v := v) (by simpa using e)
    exact ⟨d, by simpa using h1, h2⟩
theorem strs_vals : ∀ {ss : List Str} {its : List Value}, Vals (ss.map V.str) its → ∃ done : List (Str × Tok), its = strValues done ∧ done.map (·.1) = ss
  | [], _, h => by cases h; exact ⟨[], rfl, rfl⟩
  | s :: ss, _, h => by
    cases h with
    | cons r t =>
      obtain ⟨done, e1, e2⟩ := strs_vals t
      obtain ⟨tk, rfl⟩ := r
      exact ⟨(s, tk) :: done, by rw [e1]; rfl, by rw [← e2]; rfl⟩
/-- the loop of list.__repr__ -/
theorem list_loop {R : Result → Shared → Prop} {A : Around} {a P : Addr} (hne : a ≠ P) {vs : List V} {ts : List Str} {base : Nat} {g : List Code} (hg : A.guards = some g) (hcl : ∀ b ∈ as, Clear g b) (hfr : A.frames = X.A.frames) (hr : Room (j + 1) A) (hna : a ∉ as)
    (hT : ShVs X j pins σ as H0 vs ts) (hsz : base + (listText ts).length ≤ sizeLine) (hA : H0 a = some (.lst vs)) {H1 : Hp} (hP0 : H1 P = none) (hS : Same H0 H1) :
    ∀ (k i : Nat) (s : Shared) (H : Hp), vs.length - i = k → i ≤ vs.length → Inv X pins σ H s → Same H0 H → Same H1 H → H P = some (.lst ((ts.take i).map V.str)) → 
    (∀ s' H' u, Inv X pins σ H' s' → Same H1 H' → R (.ok (.ret (.str (listText ts) u))) s') →
    codeAny (model X.prog X.w) A (.builtin "list.__repr__.loop" ⟨[.ref a, rawInt i, .ref P, rawInt ((base + piled (ts.take i) : Nat) : Int)], []⟩) R s := by
  have hlen := hT.length
  have hX : (listText ts).length = (textFrom 0 "[" ts).length + 1 := by
    show (textFrom 0 "[" ts ++ "]").length = _
    rw [strLen_append]; rfl
  have hL := textFrom_len ts 0 "["
  have hsz1 : vs.length ≤ sizeLine := by
    have h1 := hL.1
    rw [if_neg (Nat.lt_irrefl 0)] at h1
    omega
  have hsz2 : ∀ t ∈ ts, t.length ≤ sizeLine := fun t ht => by
    have h2 := hL.2.1 t ht
    omega
  have hsz3 : (listText ts).length ≤ sizeLine := by omega
  have hp3 := piled_le_listText ts
  intro k
  induction k with
  | zero =>
    intro i s H hk hi I S S1 hP hR
    have hin : i = vs.length := by omega
    obtain ⟨z, its, n, r, hl, e⟩ := I.lstM (S _ _ hA)
    obtain ⟨zP, itsP, nP, rP, hlP, eP⟩ := I.lstM hP
    obtain ⟨done, hacc, hdone⟩ := strs_vals rP
    refine codeAny_builtin F.entry_list_repr_loop ?_
    show wpAny _ _ («list.__repr__.loop» ⟨[.ref a, .int i 0, .ref P, .int ((base + piled (ts.take i) : Nat) : Int) 0], []⟩) _ _ s
    rw [repr_loop_tree]
    refine wpAny_bind (wpAny_listItems e rfl ?_)
    have hnone : its.toArray[(i : Int).toNat]? = none := by simp [hin, hl]
    simp only [hnone]
    unfold reprEnd
    refine wpAny_bind (wpAny_listItems eP rfl ?_)
    rw [hacc, repr_fold]
    refine wpAny_bind (wpAny_pure ?_)
    have hall : done.map (·.1) = ts := by rw [hdone, hin, ← hlen, List.take_length]
    rw [hall]
    refine wpAny_bind (wpAny_mkStr (wpAny_pure ?_) hsz3)
    exact hR _ H _ (I.tok _) S1
  | succ k ih =>
    intro i s H hk hi I S S1 hP hR
    have hlt : i < vs.length := by omega
    obtain ⟨z, its, n, r, hl, e⟩ := I.lstM (S _ _ hA)
    obtain ⟨t, ht, hrep⟩ := hT.get (i := i) (v := vs[i]) (by simp [hlt])
    have hp1 := piled_take_succ ht
    have hp2 := piled_take_le ts (i + 1)
    refine codeAny_builtin F.entry_list_repr_loop ?_
    show wpAny _ _ («list.__repr__.loop» ⟨[.ref a, .int i 0, .ref P, .int ((base + piled (ts.take i) : Nat) : Int) 0], []⟩) _ _ s
    rw [repr_loop_tree]
    refine wpAny_bind (wpAny_listItems e rfl ?_)
    have hlt' : i < its.length := by omega
    have hsome : its.toArray[(i : Int).toNat]? = some its[i] := by simp [hlt']
    simp only [hsome]
    rw [Int.toNat_natCast]
    have hrel : RelV vs[i] its[i] := by
      obtain ⟨u, h1, h2⟩ := Vals.get r (i := i) (x := vs[i]) (by simp [hlt])
      rw [List.getElem?_eq_getElem hlt'] at h1
      cases h1
      exact h2
    obtain ⟨uf, ur⟩ := under_ok (args := ⟨[.ref a, .int i 0, .ref P, .int ((base + piled (ts.take i) : Nat) : Int) 0], []⟩) (weight_loop _) (units_under_list_loop _ _) hr
    refine wpAny_bind (wpAny_holding (hrep _ hrel (base + piled (ts.take i) + 1) (by omega) _ _ _ _ H _ (guards_under_guard (isGuard_list_loop _) hg) (fun b hb => (hcl b hb).cons (a := a) fun e => hna (e ▸ hb)) (uf.trans hfr) ur I S fun s2 H2 I2 S2 => ?_))
    refine wpAny_bind (wpAny_mkStr ?_ (hsz2 t (List.mem_of_getElem? ht)))
    refine wpAny_bind ?_
    show wpAny _ _ (updateSeq P _) _ _ _
    have I3 := I2.tok (s2.toks + 1)
    obtain ⟨zP, itsP, nP, rP, hlP, eP⟩ := I3.lstM (S2 _ _ hP)
    have hz4 : ((ts.take (i + 1)).map V.str).length ≤ sizeLine := by
      rw [List.length_map, List.length_take]
      omega
    refine wpAny_updateSeq eP rfl (wpAny_pure ⟨F.quiet_list_repr_loop _, ?_⟩) (by rw [List.size_toArray, ← hlP]; exact zP)
    have e1 : ((i : Int) + 1) = ((i + 1 : Nat) : Int) := by omega
    have e2 : base + piled (ts.take i) + (t.length + 2) = base + piled (ts.take (i + 1)) := by omega
    rw [e1, e2]
    have et : ts.take (i + 1) = ts.take i ++ [t] := by rw [List.take_add_one, ht]; rfl
    have I4 := I3.lset (its' := itsP ++ [.str t s2.toks]) (ys := (ts.take (i + 1)).map V.str) (f := fun x => x.push (.str t s2.toks)) (t' := s2.toks + 1) (S2 _ _ hP) eP (by simp) (by rw [et, List.map_append]; exact rP.append (.cons ⟨_, rfl⟩ .nil)) hz4
    have hk : ∀ b o, b ≠ P → H2 b = some o → (L2.upd H2 P (.lst ((ts.take (i + 1)).map V.str))) b = some o := fun b o hb e => by rw [upd_ne hb]; exact e
    refine ih (i + 1) _ (L2.upd H2 P (.lst ((ts.take (i + 1)).map V.str))) (by omega) hlt I4 (fun b o e => hk b o (ne_of_none (hS b o e) hP0) (S2 _ _ (S b o e))) (fun b o e => hk b o (ne_of_none e hP0) (S2 _ _ (S1 b o e))) upd_same hR
/-- list.__repr__, at whatever characters came before -/
theorem list_at {R : Result → Shared → Prop} {A : Around} {g : List Code} {s : Shared} {H : Hp} {base : Nat} {a : Addr} {vs : List V} {ts : List Str} (hA : H0 a = some (.lst vs)) (hna : a ∉ as) (hT : ShVs X j pins σ as H0 vs ts)
    (hb : base + (listText ts).length ≤ sizeLine) (hg : A.guards = some g) (hcl : ∀ b ∈ a :: as, Clear g b) (hfr : A.frames = X.A.frames) (hr : Room (j + 1) A) (I : Inv X pins σ H s) (S : Same H0 H)
    (q : ∀ s' H' u, Inv X pins σ H' s' → Same H H' → R (.ok (.ret (.str (listText ts) u))) s') :
    wpAny (model X.prog X.w) A.in1 (Builtin.listReprAt base ⟨[.ref a], []⟩) (fun fin s' => match fin with | .done f => R (.ok f) s' | .again c' => c'.quiet = true ∧ codeAny (model X.prog X.w) A c' R s') (fun e s' => R (.error e) s') s := by
  obtain ⟨z, its, n, r, hl, e⟩ := I.lstM (S _ _ hA)
  cases hT with
  | nil =>
    cases r
    exact wpAny_list_repr_empty e rfl (q _ H _ (I.tok _) (.refl H))
  | @cons v0 t0 vs ts h0 hT =>
    obtain ⟨x, l, rfl⟩ : ∃ x l, its = x :: l := by cases its with | nil => simp at hl | cons x l => exact ⟨x, l, rfl⟩
    have hca : Clear g a := hcl a (.head _)
    refine wpAny_list_repr_head (A := A.in1) hg (fun v rest kw hm => listSameRef_of_ne (hca _ _ _ _ hm)) e rfl ?_
    refine wpAny_bind (m := newList []) (wpAny_newObj_type ?_)
    refine wpAny_pure ⟨F.quiet_list_repr_loop _, ?_⟩
    have hfree := I.hok.fresh (Nat.le_refl s.heap.objs.size)
    have I1 : Inv X pins σ (L2.upd H s.heap.objs.size (.lst [])) { s with heap := s.heap.push { cls := .type "list", data := .seq #[] } } := I.laid (t' := s.toks) (fun b u e => Heap.get?_push_of_some _ e) (Nat.le_refl _)
      (show ObjOk X.prog X.w _ _ _ (.lst []) from ⟨Nat.zero_le _, [], 0, .nil, Heap.get?_push_size _ rfl⟩)
    have Su : Same H (L2.upd H s.heap.objs.size (.lst [])) := fun b o e => by rw [upd_ne (ne_of_none e hfree)]; exact e
    exact list_loop (P := s.heap.objs.size) (H1 := H) (Nat.ne_of_lt (Heap.lt_size e)) hg (fun b hb => hcl b (.tail _ hb)) hfr hr hna (.cons h0 hT) hb hA hfree S _ 0 _ (L2.upd H s.heap.objs.size (.lst [])) rfl (Nat.zero_le _) I1 (S.trans Su) Su upd_same q
/-- a list -/
theorem ShV.list {a : Addr} {vs : List V} {ts : List Str} (hA : H0 a = some (.lst vs)) (hna : a ∉ as) (hT : ShVs X j pins σ as H0 vs ts) : ShV X (j + 1) pins σ (a :: as) H0 (.ref a) (listText ts) := by
  intro u ru base hb A g E s H Q hg hcl hfr hr I S q
  cases (show u = Value.ref a from ru)
  obtain ⟨z, its, n, r, hl, e⟩ := I.lstM (S _ _ hA)
  have hu := hr.un
  refine wpAny_pyReprUnder_ref (by omega) (wpAny_pyReprObjUnder_twin (twin := "list.__repr__.under") ⟨_, e, rfl⟩ F.slot_list_repr.toG rfl (by omega) ?_)
  exact call_twin_plain F.plain_list_repr_under F.entry_list_repr_under F.check_list_repr_under ⟨_, e, rfl⟩ F.slot_list_repr.toG (F.args_list_repr_1 _) (list_at hA hna hT hb hg hcl hfr hr I S fun s' H' u I' S' => ⟨⟨_, _, rfl⟩, _, _, rfl, q _ H' I' S'⟩)
/-- repr(a list) -/
theorem repr_list {A : Around} {E : Value → Shared → Prop} {s : Shared} {H : Hp} {Q : Value → Shared → Prop} {a : Addr} {vs : List V} {ts : List Str} (hA : H0 a = some (.lst vs)) (hna : a ∉ as) (hT : ShVs X j pins σ as H0 vs ts)
    (hb : (listText ts).length ≤ sizeLine) (hg : A.guards = some []) (hfr : A.frames = X.A.frames) (hr : Room (j + 2) A) (I : Inv X pins σ H s) (S : Same H0 H)
    (q : ∀ s' H' u, Inv X pins σ H' s' → Same H H' → Q (.str (listText ts) u) s') : wpAny (model X.prog X.w) A (call (.builtin "repr") [.ref a]) Q E s := by
  obtain ⟨z, its, n, r, hl, e⟩ := I.lstM (S _ _ hA)
  have hu := hr.un
  refine call_repr_slot (by omega) ⟨_, e, rfl⟩ F.slot_list_repr.toG ?_
  exact wpAny_call (codeAny_call_builtin F.slot_list_repr.plain F.entry_list_repr (F.slot_list_repr.check _ _ _ _ _ _ _ _ ⟨_, e, rfl⟩ (F.args_list_repr_1 _)
    (list_at (A := A.in1) (base := 0) (R := callEnd _ E) hA hna hT (by omega) hg (fun b _ => Clear.nil b) hfr hr.in1 I S fun s' H' u I' S' => ⟨_, _, rfl, q _ H' u I' S'⟩)))
inductive ShAll (X : Cx) (j : Nat) (pins : List (Addr × Obj)) (σ : L2.St) (as : List Addr) (H0 : Hp) : List Value → List Str → Prop
  | nil : ShAll X j pins σ as H0 [] []
  | cons {x : Value} {t : Str} {l : List Value} {ts : List Str} : Sh X j pins σ as H0 x t → ShAll X j pins σ as H0 l ts → ShAll X j pins σ as H0 (x :: l) (t :: ts)
theorem ShAll.length : ∀ {l : List Value} {ts : List Str}, ShAll X j pins σ as H0 l ts → ts.length = l.length
  | _, _, .nil => rfl
  | _, _, .cons _ h => by simp [h.length]
theorem ShVs.all : ∀ {l : List V} {its : List Value} {ts : List Str}, ShVs X j pins σ as H0 l ts → Vals l its → ShAll X j pins σ as H0 its ts
  | _, _, _, .nil, r => by cases r; exact .nil
  | _, _, _, .cons h t, r => by cases r with | cons r1 r2 => exact .cons (h _ r1) (t.all r2)
theorem tup_fold {A : Around} {E : Value → Shared → Prop} {g : List Code} (hg : A.guards = some g) (hcl : ∀ b ∈ as, Clear g b) (hfr : A.frames = X.A.frames) (hr : Room j A) : ∀ (l : List Value) (ts : List Str) (acc : Array Str) (n : Nat) (s : Shared) (H : Hp) (Q : (Array Str × Nat) → Shared → Prop), ShAll X j pins σ as H0 l ts → n + piled ts ≤ sizeLine →
    Inv X pins σ H s → Same H0 H → (∀ s' H', Inv X pins σ H' s' → Same H H' → Q ⟨acc ++ ts.toArray, n + piled ts⟩ s') → wpAny (model X.prog X.w) A (forIn l (⟨acc, n⟩ : (Array Str × Nat)) tupBody) Q E s := by
  intro l
  induction l with
  | nil =>
    intro ts acc n s H Q hT _ I S h
    cases hT
    have h0 := h s H I (.refl H)
    simp only [List.forIn_nil]
    exact wpAny_pure (by simpa [piled] using h0)
  | cons x l ih =>
    intro ts acc n s H Q hT hn I S h
    cases hT with
    | cons hx hl =>
      rename_i t ts'
      rw [piled_cons] at hn
      rw [List.forIn_cons]
      refine wpAny_bind (wpAny_bind (hx (n + 1) (by omega) _ _ _ _ H _ hg hcl hfr hr I S fun s' H' I' S' => wpAny_pure ?_))
      refine ih ts' (acc.push t) (n + (t.length + 2)) _ H' Q hl (by omega) I' (S.trans S') fun s2 H2 I2 S2 => ?_
      have h1 := h s2 H2 I2 (S'.trans S2)
      have e : n + piled (t :: ts') = n + (t.length + 2) + piled ts' := by rw [piled_cons]; omega
      rw [e] at h1
      simpa using h1
theorem tup_at {R : Result → Shared → Prop} {A : Around} {g : List Code} {s : Shared} {H : Hp} {base : Nat} {a : Addr} {vs : List V} {ts : List Str} {id : String} {rest : List Value} (hA : H0 a = some (.tup vs)) (hna : a ∉ as) (hT : ShVs X j pins σ as H0 vs ts)
    (hcg : (Code.builtin id ⟨.ref a :: rest, []⟩).isGuard = true) (hcu : (A.under (.builtin id ⟨.ref a :: rest, []⟩)).units = A.units + 1) (hcw : (Code.builtin id ⟨.ref a :: rest, []⟩).weight = 1)
    (hsz : base + (tupleText ts).length ≤ sizeLine) (hg : A.guards = some g) (hcl : ∀ b ∈ a :: as, Clear g b) (hfr : A.frames = X.A.frames) (hr : Room (j + 1) A) (I : Inv X pins σ H s) (S : Same H0 H)
    (q : ∀ s' H' u, Inv X pins σ H' s' → Same H H' → R (.ok (.ret (.str (tupleText ts) u))) s') :
    wpOwn (model X.prog X.w) A (.builtin id ⟨.ref a :: rest, []⟩) (Builtin.tupleReprAt base ⟨[.ref a], []⟩) (fun fin s' => match fin with | .done f => R (.ok f) s' | .again c' => c'.quiet = true ∧ codeAny (model X.prog X.w) A c' R s') (fun e s' => R (.error e) s') s := by
  obtain ⟨z, its, r, o, h1, h2, n, h3⟩ := (show ObjOk X.prog X.w H s.heap a (.tup vs) from I.hok a _ (S _ _ hA))
  have hl := Vals.length r
  have hca : Clear g a := hcl a (.head _)
  have hAll := hT.all r
  have hlen : ts.length = its.length := hAll.length
  have hp := piled_le_tupleText ts
  have hsz0 : (tupleText ts).length ≤ sizeLine := by omega
  obtain ⟨uf, ur⟩ := under_ok hcw hcu hr
  rw [tuple_repr_tree, tupleReprUnderWay_eq]
  refine wpOwn_bind (wpOwn_stackTailAny hg (tupGuardF_off _) (tupGuardF_pos _) ?_)
  have hn : (g.any fun c => tupGuardF (.ref a) (c, default)) = false := by
    rw [List.any_eq_false]
    intro c hcm
    rw [tupGuardF_of_clear hca c hcm]
    exact Bool.false_ne_true
  rw [hn]
  refine wpOwn_of_wpAny ?_
  show wpAny _ _ (tupleReprRest base (.ref a)) _ _ s
  unfold tupleReprRest Builtin.Tuple.tupleItemsOf
  refine wpAny_bind (wpAny_bind (wpAny_seqItems h1 h3 (wpAny_pure ?_)))
  rw [← Array.forIn_toList]
  refine wpAny_bind (tup_fold (guards_under_guard hcg hg) (fun b hb => (hcl b (.tail _ hb)).cons (a := a) fun e => hna (e ▸ hb)) (uf.trans hfr) ur _ ts _ _ _ H _ hAll (by omega) I S fun s' H' I' S' => ?_)
  refine wpAny_bind (wpAny_mkStr (wpAny_pure ?_) (by simpa [tupleText, hlen] using hsz0))
  have h1 := q _ H' s'.toks (I'.tok (s'.toks + 1)) S'
  simpa [tupleText, hlen] using h1
theorem ShV.tup {a : Addr} {vs : List V} {ts : List Str} (hA : H0 a = some (.tup vs)) (hna : a ∉ as) (hT : ShVs X j pins σ as H0 vs ts) : ShV X (j + 1) pins σ (a :: as) H0 (.ref a) (tupleText ts) := by
  intro u ru base hb A g E s H Q hg hcl hfr hr I S q
  cases (show u = Value.ref a from ru)
  obtain ⟨z, its, r, o, h1, h2, n, h3⟩ := (show ObjOk X.prog X.w H s.heap a (.tup vs) from I.hok a _ (S _ _ hA))
  have hu := hr.un
  refine wpAny_pyReprUnder_ref (by omega) (wpAny_pyReprObjUnder_twin (twin := "tuple.__repr__.under") ⟨o, h1, h2⟩ F.slot_tuple_repr rfl (by omega) ?_)
  exact call_twin_own (F.quiet_tuple_repr_under _) F.entry_tuple_repr_under F.check_tuple_repr_under ⟨o, h1, h2⟩ F.slot_tuple_repr (F.args_tuple_repr_1 _)
    (tup_at hA hna hT (isGuard_tuple_repr_under _) (units_under_tuple_repr_under _ _) (weight_tupU _) hb hg hcl hfr hr I S fun s' H' u I' S' => ⟨⟨_, _, rfl⟩, _, _, rfl, q _ H' I' S'⟩)
theorem repr_tup {A : Around} {E : Value → Shared → Prop} {s : Shared} {H : Hp} {Q : Value → Shared → Prop} {a : Addr} {vs : List V} {ts : List Str} (hA : H0 a = some (.tup vs)) (hna : a ∉ as) (hT : ShVs X j pins σ as H0 vs ts)
    (hb : (tupleText ts).length ≤ sizeLine) (hg : A.guards = some []) (hfr : A.frames = X.A.frames) (hr : Room (j + 2) A) (I : Inv X pins σ H s) (S : Same H0 H)
    (q : ∀ s' H' u, Inv X pins σ H' s' → Same H H' → Q (.str (tupleText ts) u) s') : wpAny (model X.prog X.w) A (call (.builtin "repr") [.ref a]) Q E s := by
  obtain ⟨z, its, r, o, h1, h2, n, h3⟩ := (show ObjOk X.prog X.w H s.heap a (.tup vs) from I.hok a _ (S _ _ hA))
  have hu := hr.un
  refine call_repr_slot (by omega) ⟨o, h1, h2⟩ F.slot_tuple_repr ?_
  exact wpAny_call (codeAny_call_builtin_own (Code.quiet_builtin _ (by decide +kernel)) F.entry_tuple_repr (F.slot_tuple_repr.check _ _ _ _ _ _ _ _ ⟨o, h1, h2⟩ (F.args_tuple_repr_1 _)
    (tup_at (A := A.in1) (base := 0) (R := callEnd _ E) hA hna hT (isGuard_tuple_repr _) (units_under_tuple_repr _ _) (weight_tup _) (by omega) hg (fun b _ => Clear.nil b) hfr hr.in1 I S fun s' H' u I' S' => ⟨_, _, rfl, q _ H' u I' S'⟩)))
/-- an object of an own class -/
theorem ShV.own {C f a dx : Addr} {fd : FuncData} {ps : List Str} {sp : Sp} {k : Nat} {fs : List (Str × V)} {t : Str} (F : FnOk X.prog X.w X.K X.mg X.base CX0 k f fd ps sp) (hb : Binds X.K fd ps []) (hs : PySem.W.findIn X.K (.ref C) "__repr__" = some (some (.ref f))) (hf : PySem.W.isFn X.K (.ref f) = true)
    (hA : H0 a = some (.ins C dx fs)) (h : ∀ H, Same H0 H → sp [.ref a] H (fun v H' => v = .str t ∧ Same H H') E0) : ShV X k pins σ as H0 (.ref a) t := by
  intro u ru base hz A g E s H Q hg hcl hfr hr I S q
  cases (show u = Value.ref a from ru)
  have hu := hr.un
  obtain ⟨mA, J, _⟩ := ins_get I.hok (S _ _ hA)
  obtain ⟨od, J, _⟩ := J.look
  refine wpAny_pyReprUnder_ref (by omega) ?_
  unfold pyReprObjUnder pyReprObjBy
  refine wpAny_bind (wpAny_cRoomFor (by omega) ?_)
  refine wpAny_bind (wpAny_bind (J.type.here ((PySem.W.looks_findIn I.kIn hs).here ?_)))
  show wpAny _ _ (if (some (Value.ref f)).isNone = true then _ else _) _ _ _
  rw [if_neg (by simp)]
  have run : wpAny (model X.prog X.w) A (call (.ref f) [.ref a]) (fun v s' => ∃ x u, v = .str x u ∧ Q x s') E s := by
    refine wpAny_mono (run_at (us := [.ref a]) (vs := [.ref a]) F hr hfr hb I (.cons rfl .nil) (h H S)) (fun v s' hv => ?_) fun _ _ e => e
    obtain ⟨v0, H', I', rv, rfl, S'⟩ := hv
    obtain ⟨tk, rfl⟩ := rv
    exact ⟨_, _, rfl, q _ H' I' S'⟩
  have fin : wpAny (model X.prog X.w) A (call (.ref f) ([.ref a] ++ []) >>= fun v => pure (some v)) (fun v s' => ∃ x u, v = some (.str x u) ∧ Q x s') E s :=
    wpAny_bind (wpAny_mono run (fun v s' h' => wpAny_pure (by obtain ⟨x, u, rfl, z⟩ := h'; exact ⟨x, u, rfl, z⟩)) fun _ _ h' => h')
  have bd : wpAny (model X.prog X.w) A (callSpecialIfBoundBy? (fun g first => match reprUnder? g, first with
    | some twin, [self] => call twin [self, rawInt base]
    | _, _ => call g (first ++ [])) (.ref a) (Str.ofString "__repr__")) (fun v s' => ∃ x u, v = some (.str x u) ∧ Q x s') E s := by
    simp only [callSpecialIfBoundBy?, bindSpecialIfBound?]
    refine wpAny_holding (wpAny_bind (wpAny_bind (wpAny_bind (J.type.here ((PySem.W.looks_findIn I.kIn hs).here ?_)))))
    refine wpAny_bind (wpAny_askSetting (wpAny_ite ?_))
    split
    · exact wpAny_bind ((PySem.W.bind_fn I.kIn _ (beq_iff_eq.mp hf)).here (wpAny_pure (by exact fin)))
    · exact wpAny_tryCatch (wpAny_bind ((PySem.W.bind_fn I.kIn _ (beq_iff_eq.mp hf)).here (wpAny_pure (by exact fin))))
  refine wpAny_bind (wpAny_mono bd (fun v s' hv => ?_) fun _ _ e => e)
  obtain ⟨x, u, rfl, z⟩ := hv
  refine wpAny_bind (wpAny_isInstance (typeIs_str _ _ _) isSubtype_str_str ?_)
  rw [if_pos rfl]
  exact wpAny_pure ⟨_, _, rfl, z⟩
end
end GR
namespace Dt
open PySem PySem.Spec PyProof.Rows L2 Ly GR
mutual
inductive Shw (ρ : D → Str → Prop) (k : Nat) : Nat → D → Str → Prop
  | int {n : Nat} {i : Int} (h : i.natAbs.log2 < 1920) : Shw ρ k n (.int i) (toString i)
  | str {n : Nat} {x : Str} (h : (reprText x).length ≤ sizeLine) : Shw ρ k n (.str x) (reprText x)
  | bl {n : Nat} {b : Bool} : Shw ρ k n (.bl b) (if b then "True" else "False")
  | non {n : Nat} : Shw ρ k n .non "None"
  | obj {n : Nat} {C : Addr} {fs : List (Str × D)} {t : Str} (h : ρ (.obj C fs) t) (hn : k ≤ n) : Shw ρ k n (.obj C fs) t
  | lst {n : Nat} {ds : List D} {ts : List Str} (h : Shws ρ k n ds ts) : Shw ρ k (n + 1) (.lst ds) (listText ts)
  | tup {n : Nat} {ds : List D} {ts : List Str} (h : Shws ρ k n ds ts) : Shw ρ k (n + 1) (.tup ds) (tupleText ts)
inductive Shws (ρ : D → Str → Prop) (k : Nat) : Nat → List D → List Str → Prop
  | nil {n : Nat} : Shws ρ k n [] []
  | cons {n : Nat} {d : D} {t : Str} {ds : List D} {ts : List Str} (h : Shw ρ k n d t) (g : Shws ρ k n ds ts) : Shws ρ k n (d :: ds) (t :: ts)
end
/-- what the own classes' __repr__ gives -/
def RhoOk (X : Cx) (k : Nat) (ρ : D → Str → Prop) : Prop := ∀ C fs t, ρ (.obj C fs) t → ∀ (pins : List (Addr × Obj)) (σ : L2.St) (H0 : Hp) (a : Addr), At H0 (.ref a) (.obj C fs) → ShV X k pins σ [] H0 (.ref a) t
theorem ShVs.up {X : Cx} {j : Nat} {pins : List (Addr × Obj)} {σ : L2.St} {as as' : List Addr} {H0 : Hp} (ha : ∀ b ∈ as, b ∈ as') : ∀ {l : List V} {ts : List Str}, ShVs X j pins σ as H0 l ts → ShVs X j pins σ as' H0 l ts
  | _, _, .nil => .nil
  | _, _, .cons h t => .cons (h.up (Nat.le_refl _) ha (.refl H0)) (ShVs.up ha t)
def Und (H0 : Hp) (as : List Addr) (n : Nat) : Prop := ∀ b ∈ as, ∃ d', At H0 (.ref b) d' ∧ sizeOf d' ≤ n
theorem Und.nil {H0 : Hp} {n : Nat} : Und H0 [] n := fun _ h => nomatch h
section
variable {X : Cx} {pins : List (Addr × Obj)} {σ : L2.St} {H0 : Hp} {ρ : D → Str → Prop} {k : Nat}
mutual
theorem shw_at (R : RhoOk X k ρ) : ∀ {n : Nat} {v : V} {d : D} {t : Str}, At H0 v d → Shw ρ k n d t → ∃ as, Und H0 as (sizeOf d) ∧ ShV X n pins σ as H0 v t
  | _, _, _, _, a, .int h => by cases a; exact ⟨[], .nil, .int h⟩
  | _, _, _, _, a, .str h => by cases a; exact ⟨[], .nil, .str h⟩
  | _, _, _, _, a, .bl => by cases a; exact ⟨[], .nil, .bl⟩
  | _, _, _, _, a, .non => by cases a; exact ⟨[], .nil, .non⟩
  | _, _, _, _, a, .obj h hn => by
    have a0 := a
    cases a with
    | obj e e2 t => exact ⟨[], .nil, (R _ _ _ h pins σ H0 _ a0).up hn (fun _ z => nomatch z) (.refl H0)⟩
  | _, _, _, _, a, .lst h => by
    have a0 := a
    cases a with
    | lst e t =>
      obtain ⟨as, u, s⟩ := shws_at R t h
      refine ⟨_, ?_, ShV.list e (fun m => ?_) s⟩
      · intro b hb
        rcases List.mem_cons.mp hb with rfl | hb
        · exact ⟨_, a0, Nat.le_refl _⟩
        · obtain ⟨d', x, y⟩ := u b hb
          exact ⟨d', x, by simp only [D.lst.sizeOf_spec]; omega⟩
      · obtain ⟨d', x, y⟩ := u _ m
        cases x.det a0
        simp only [D.lst.sizeOf_spec] at y
        omega
  | _, _, _, _, a, .tup h => by
    have a0 := a
    cases a with
    | tup e t =>
      obtain ⟨as, u, s⟩ := shws_at R t h
      refine ⟨_, ?_, ShV.tup e (fun m => ?_) s⟩
      · intro b hb
        rcases List.mem_cons.mp hb with rfl | hb
        · exact ⟨_, a0, Nat.le_refl _⟩
        · obtain ⟨d', x, y⟩ := u b hb
          exact ⟨d', x, by simp only [D.tup.sizeOf_spec]; omega⟩
      · obtain ⟨d', x, y⟩ := u _ m
        cases x.det a0
        simp only [D.tup.sizeOf_spec] at y
        omega
theorem shws_at (R : RhoOk X k ρ) : ∀ {n : Nat} {vs : List V} {ds : List D} {ts : List Str}, Ats H0 vs ds → Shws ρ k n ds ts → ∃ as, Und H0 as (sizeOf ds) ∧ ShVs X n pins σ as H0 vs ts
  | _, _, _, _, a, .nil => by cases a; exact ⟨[], .nil, .nil⟩
  | _, _, _, _, a, .cons h g => by
    cases a with
    | cons a t =>
      obtain ⟨as, u, s⟩ := shw_at R a h
      obtain ⟨bs, u2, s2⟩ := shws_at R t g
      refine ⟨as ++ bs, fun b hb => ?_, .cons (s.up (Nat.le_refl _) (fun b m => List.mem_append_left _ m) (.refl H0)) (ShVs.up (fun b m => List.mem_append_right _ m) s2)⟩
      rcases List.mem_append.mp hb with hb | hb
      · obtain ⟨d', x, y⟩ := u b hb
        exact ⟨d', x, by simp only [List.cons.sizeOf_spec]; omega⟩
      · obtain ⟨d', x, y⟩ := u2 b hb
        exact ⟨d', x, by simp only [List.cons.sizeOf_spec]; omega⟩
end
end
def isSeqD : D → Bool
  | .lst _ => true
  | .tup _ => true
  | _ => false
def rShow (ρ : D → Str → Prop) (k j : Nat) : List V → Hp → VK → Prop := fun xs H Q => ∃ (a : Addr) (d : D) (t : Str) (H0 : Hp), xs = [.ref a] ∧ Same H0 H ∧ At H0 (.ref a) d ∧ isSeqD d = true ∧ Shw ρ k j d t ∧ t.length ≤ sizeLine ∧ ∀ H', Same H H' → Q (.str t) H'
theorem call_show {X : Cx} {ρ : D → Str → Prop} {k j : Nat} (hr : Room (j + 1) X.A) (hgd : X.A.guards = some []) (R : RhoOk X k ρ) : CallR X (.builtin "repr") (rShow ρ k j) := by
  intro pins s σ H xs us Q I r q
  obtain ⟨a, d, t, H0, rfl, S, at_, hd, w, hl, q⟩ := q
  obtain ⟨u, rfl, ru⟩ := vals1 r
  cases ru
  have a0 := at_
  cases w with
  | lst h =>
    cases at_ with
    | lst e t =>
      obtain ⟨as, u, s1⟩ := shws_at (pins := pins) (σ := σ) R t h
      refine repr_list e (fun m => ?_) s1 hl hgd rfl hr I S fun s' H' u I' S' => ⟨.str _, H', I', ⟨u, rfl⟩, q H' S'⟩
      obtain ⟨d', x, y⟩ := u _ m
      cases x.det a0
      simp only [D.lst.sizeOf_spec] at y
      omega
  | tup h =>
    cases at_ with
    | tup e t =>
      obtain ⟨as, u, s1⟩ := shws_at (pins := pins) (σ := σ) R t h
      refine repr_tup e (fun m => ?_) s1 hl hgd rfl hr I S fun s' H' u I' S' => ⟨.str _, H', I', ⟨u, rfl⟩, q H' S'⟩
      obtain ⟨d', x, y⟩ := u _ m
      cases x.det a0
      simp only [D.tup.sizeOf_spec] at y
      omega
  | int h => cases hd
  | str h => cases hd
  | bl => cases hd
  | non => cases hd
  | obj h hn => cases hd
section
variable {π : Po} {δ : List Rv} {kk : Rv → Prop} {ρ : D → Str → Prop} {k j : Nat}
theorem cut_same {X : Xs} {H : Hp} : Same (cut X H) H := fun a o e => (of_cut e).2
theorem wcb_repr {a : Rv} {x : D} {t : Str} (hf : a.fz = some x) (hs : isSeqD x = true) (w : Shw ρ k j x t) (hl : t.length ≤ sizeLine) (q : kk (.d (.str t))) : WCb π (rShow ρ k j) [a] kk := fun X H0 H xs Q o0 o k0 ra h => by
  match xs, ra with
  | [v], ⟨ra, _⟩ =>
    have at_ := ra.fz o0 hf
    obtain ⟨p, rfl⟩ : ∃ p, v = .ref p := by cases at_ <;> first | exact ⟨_, rfl⟩ | cases hs
    exact ⟨p, x, t, cut X H, rfl, cut_same, at_, hs, w, hl, fun H' S => h _ (.d (.str t)) H' (Kp.of_same o S) (At.str t) q⟩
end
theorem clg_W {W : Wd} {k : Nat} {x : Str} {st : Stmt} {N ps : List Str} {pt : Bool} {B : List Rv → (Rv → Prop) → Prop} (g : GF W.K W.mg x st) (S : FnScope N ps (defScope st)) (hb : BindOk x x st ps) (hB : ∀ rs k, B rs k → rs.length = ps.length) (hbody : BodyG W k N x st (spW pt B)) : ClG W (k + 1) x (spW pt B) :=
  clg_of g S hb (len_W hB) hbody
theorem body_G {W : Wd} {k : Nat} {N : List Str} {qual : Str} {st : Stmt} {pt : Bool} {B : List Rv → (Rv → Prop) → Prop} {n m : Nat} (hm : N.length - n = m) (hB : ∀ rs k, B rs k → rs.length = n)
    (hb : ∀ (f : Addr) (cdv : Value) (A : Around) (outer : List Env) (s : Shared) (H : Hp) (E : XK), Room k (A.deeper (envOfC qual (defScope st) s.heap.objs.size f cdv)) → (A.deeper (envOfC qual (defScope st) s.heap.objs.size f cdv)).guards = some [] →
      ∃ t, PSs (cxOf CX0 W.P W.w W.K W.mg W.base N qual (defScope st) f cdv A outer s H E).nox (defBody st) t ∧ ∀ (π : Po) (rs : List Rv) (kr : Rv → Prop), π.isSome = pt → B rs kr → Ws π t ⟨fun _ => kr (.d .non), kr, fun _ => False, fun _ => False⟩ (rs ++ uns m)) :
    BodyG W k N qual st (spW pt B) := fun f cdv A outer s H vs Q E hr hg h => by
  obtain ⟨t, ps, w⟩ := hb f cdv A outer s H E hr hg
  exact ⟨t, ps, run_body hm hB w h⟩
end Dt
namespace Ly
open PySem PySem.Spec PyProof.Rows L2
/-- how many different ones -/
def nd (xs : List Str) : Nat := xs.eraseDups.length
theorem any_beq (xs : List Str) (k : Str) : (xs.any (· == k)) = decide (k ∈ xs) := by
  induction xs with
  | nil => rfl
  | cons x xs ih =>
    rw [List.any_cons, ih]
    by_cases h : x = k
    · rw [h, beq_self_eq_true, decide_eq_true (List.mem_cons_self ..)]
      rfl
    · have h2 : (x == k) = false := by simpa using h
      rw [h2, Bool.false_or]
      by_cases h3 : k ∈ xs
      · rw [decide_eq_true h3, decide_eq_true (List.mem_cons_of_mem _ h3)]
      · rw [decide_eq_false h3, decide_eq_false (fun z => (List.mem_cons.mp z).elim (fun e => h e.symm) h3)]
theorem snoc_ind {α : Type} {P : List α → Prop} (h0 : P []) (h1 : ∀ xs x, P xs → P (xs ++ [x])) (xs : List α) : P xs := by
  have k : ∀ l : List α, P l.reverse := by
    intro l
    induction l with
    | nil => exact h0
    | cons x l ih =>
      rw [List.reverse_cons]
      exact h1 _ _ ih
  have := k xs.reverse
  rwa [List.reverse_reverse] at this
theorem nd_snoc (xs : List Str) (x : Str) : nd (xs ++ [x]) = if x ∈ xs then nd xs else nd xs + 1 := by
  unfold nd
  rw [List.eraseDups_append]
  by_cases h : x ∈ xs
  · rw [if_pos h]
    have : [x].removeAll xs = [] := by simp [List.removeAll, h]
    rw [this]
    simp
  · rw [if_neg h]
    have : [x].removeAll xs = [x] := by simp [List.removeAll, h]
    rw [this, List.length_append]
    rfl
theorem nd_le (xs : List Str) : nd xs ≤ xs.length := by
  induction xs using snoc_ind with
  | h0 => exact Nat.le_refl _
  | h1 xs x ih =>
    rw [nd_snoc, List.length_append, List.length_singleton]
    split <;> omega
theorem nd_nodup {xs : List Str} (h : xs.Nodup) : nd xs = xs.length := by
  induction xs using snoc_ind with
  | h0 => rfl
  | h1 xs x ih =>
    have h2 := List.nodup_append.mp h
    have hx : x ∉ xs := fun z => h2.2.2 x z x (List.mem_singleton.mpr rfl) rfl
    rw [nd_snoc, if_neg hx, ih h2.1, List.length_append]
    rfl
section
variable {prog : Program} {w : World} {A : Around} {R : Result → Shared → Prop} {I : Addr} {fp wr : List Addr} {G : Array GenState → Array GenState → Prop} {n : Nat} {P : Nat → Value → Prop} {St : Nat → Shared → Prop}
/-- the set S holds the first i of xs -/
def HoldsS (prog : Program) (w : World) (S : Addr) (xs : List Str) (i : Nat) (h : Heap) : Prop := h.SetOf (PySem.strKind prog w) S (fun k => (xs.take i).any (· == k)) (nd (xs.take i))
theorem HoldsS.at {S : Addr} {xs : List Str} {i : Nat} {h h' : Heap} (e : ∀ o, h.get? S = some o → h'.get? S = some o) (x : HoldsS prog w S xs i h) : HoldsS prog w S xs i h' := by
  obtain ⟨o, es, ep, t, ho, rest⟩ := x
  exact ⟨o, es, ep, t, e o ho, rest⟩
theorem loop_texts (W : WalksS prog w A.in1 I fp wr G n P St) (S : Addr) (hSf : S ∉ fp) (xs : List Str) (hsz : xs.length = n) (hb : n + 1 < scanBound) (hval : ∀ i v, P i v → ∃ t, v = .str (xs.getD i Str.empty) t) :
    ∀ (k i : Nat) (s : Shared), n - i = k → i ≤ n → St i s → HoldsS prog w S xs i s.heap →
      (∀ s', Moved (S :: wr) G s s' → HoldsS prog w S xs n s'.heap → R (.ok (.ret .none)) s') → codeAny (model prog w) A (.builtin "set.update.loop" ⟨[.ref S, .ref I], []⟩) R s := by
  have hSw : S ∉ wr := fun h => hSf (W.sub _ h)
  have hsub : ∀ b ∈ wr, b ∈ S :: wr := fun b hb => List.mem_cons_of_mem _ hb
  have enter : ∀ {s : Shared}, wpAny (model prog w) A.in1 (Builtin.«set.update.loop» ⟨[.ref S, .ref I], []⟩) (fun fin s' => match fin with | .done f => R (.ok f) s' | .again c' => c'.quiet = true ∧ codeAny (model prog w) A c' R s') (fun e s' => R (.error e) s') s →
      codeAny (model prog w) A (.builtin "set.update.loop" ⟨[.ref S, .ref I], []⟩) R s := fun h => codeAny_builtin PyProof.Rows.F.entry_set_update_loop (by
    rw [Around.under_plainId PyProof.Rows.F.plain_set_update_loop _]
    exact h)
  intro k
  induction k with
  | zero =>
    intro i s hk hi hst hS hR
    obtain rfl : i = n := by omega
    refine enter ?_
    refine (show wpAny (model prog w) A.in1 (pyNext (.ref I) >>= _) _ _ s from wpAny_bind (W.done s _ _ hst fun s' hm => ?_))
    exact wpAny_pure (hR s' (hm.mono hsub) (hS.at fun o e => hm.heap S o hSw e))
  | succ k ih =>
    intro i s hk hi hst hS hR
    have hlt : i < n := by omega
    refine enter ?_
    refine (show wpAny (model prog w) A.in1 (pyNext (.ref I) >>= _) _ _ s from wpAny_bind (W.item i s _ _ hlt hst fun v s' hP hst' hm => ?_))
    obtain ⟨t, rfl⟩ := hval i v hP
    have hS' : HoldsS prog w S xs i s'.heap := hS.at fun o e => hm.heap S o hSw e
    refine (show wpAny (model prog w) A.in1 (holding [Value.str (xs.getD i Str.empty) t] (setAdd S (.str (xs.getD i Str.empty) t)) >>= _) _ _ s' from wpAny_bind (wpAny_holding ?_))
    unfold setAdd
    refine wpAny_holding (wpAny_bind ((PySem.strKind prog w).pyHash (k := xs.getD i Str.empty) (strKind_is _ _ _ _) ?_))
    have hle := nd_le (xs.take i)
    have hl2 : (xs.take i).length ≤ i := List.length_take_le i xs
    refine wpAny_setAddHashed_of (knd := PySem.strKind prog w) (s := { s' with toks := s'.toks + 1 }) (strKind_is _ _ _ _) rfl hS' (by omega) fun h' hsb hS2 => ?_
    have hSi : HoldsS prog w S xs (i + 1) h' := by
      have hx : xs[i]? = some (xs.getD i Str.empty) := by
        rw [List.getD_eq_getElem?_getD, List.getElem?_eq_getElem (by omega)]
        rfl
      have ht : xs.take (i + 1) = xs.take i ++ [xs.getD i Str.empty] := by
        rw [List.take_add_one, hx]
        rfl
      unfold HoldsS
      rw [ht, nd_snoc]
      refine SetOf_congr hS2 (fun k' => ?_) ?_
      · rw [any_beq, any_beq]
        by_cases h1 : k' ∈ xs.take i
        · simp [h1]
        · by_cases h2 : k' = xs.getD i Str.empty
          · simp [h2]
          · simp [h1, h2]
      · rw [any_beq]
        by_cases h1 : xs.getD i Str.empty ∈ xs.take i
        · simp [h1]
        · simp [h1]
    refine wpAny_pure ⟨plainId_quiet PyProof.Rows.F.plain_set_update_loop _, ih (i + 1) _ (by omega) hlt (W.frame _ s' _ _ hst' (Nat.le_succ _) fun b hb o e => ?_) hSi fun s'' hm'' hS'' => ?_⟩
    · exact (hsb.2 b fun h => hSf (by rw [← h]; exact hb)).trans e
    · exact hR s'' (Moved.trans W.gtrans ((hm.mono hsub).then_heap (Nat.le_succ _) fun b o hb e => (hsb.2 b fun h => hb (by rw [h]; exact List.mem_cons_self)).trans e) hm'') hS''
end
abbrev freshS (led : Bool) : Obj := { cls := .type "set", dict := none, data := .set #[] 0 (.fresh 0 0 led) }
section
variable {prog : Program} {w : World} {A : Around} {E : Value → Shared → Prop} {s : Shared}
theorem set_list_texts {l : Addr} {items : Array Value} {xs : List Str} {Q : Value → Shared → Prop} (hh : A.handled = none) (hl : s.heap.IsList l items) (hi : StrsAre items.toList xs) (hb : xs.length + 1 < scanBound)
    (h : ∀ (h' : Heap) (tk : Nat), HoldsS prog w s.heap.objs.size xs xs.length h' → (∀ b o, b < s.heap.objs.size → s.heap.get? b = some o → h'.get? b = some o) → Q (.ref s.heap.objs.size) { s with heap := h', toks := tk }) :
    wpAny (model prog w) A (call (.type "set") [.ref l]) Q E s := by
  have c1 := PySem.F.called_set.mro
  obtain ⟨c, tl, hmro⟩ := c1
  have c2 := PySem.F.called_set.made
  have c3 := PySem.F.called_set.sub
  have c4 := PySem.F.called_set.notType
  have c5 := PySem.F.called_set.canCreate
  have c6 := PySem.F.typeCall_set_1 (.ref l)
  refine wpAny_call (codeAny_of_tree (show wpAny (model prog w) _ (callAny (.type "set") _) _ _ _ from wpAny_pure ⟨Code.quiet_builtin _ (by decide +kernel), codeAny_builtin PySem.F.entry_type_call ?_⟩))
  rw [Around.under_plain (weight_type_call_type "set" [.ref l] []) rfl]
  repeat (any_goals (first | assumption | wp_step))
  refine codeAny_mono (code_set_new_1 (.ref l) (E := E) (Q₁ := fun obj s₁ => ∃ led : Bool, obj = .ref s.heap.objs.size ∧ s₁ = { s with heap := s.heap.push (freshS led) }) fun led => ⟨led, rfl, rfl⟩) fun r s₁ hr => ?_
  match r, hr with
  | .error e, hr => exact hr
  | .ok .next, hr => exact hr.elim
  | .ok .brk, hr => exact hr.elim
  | .ok .cont, hr => exact hr.elim
  | .ok (.ret obj), ⟨led, e1, e2⟩ =>
    subst e1
    subst e2
    have hS : (s.heap.push (freshS led)).get? s.heap.objs.size = some (freshS led) := Heap.get?_push_size _ rfl
    have hT : Shared.TypeIs { s with heap := s.heap.push (freshS led) } (.ref s.heap.objs.size) "set" := ⟨_, hS, rfl⟩
    have c7 := PySem.F.called_set.init.lookup
    have c8 := PySem.F.called_set.init.bind (.ref s.heap.objs.size)
    repeat (any_goals (first | assumption | wp_step))
    refine codeAny_mono (codeAny_call_builtin (R := wants (fun r s₂ => r = .none ∧ ∃ h' tk, s₂ = { s with heap := h', toks := tk } ∧ HoldsS prog w s.heap.objs.size xs xs.length h' ∧ (∀ b o, b < s.heap.objs.size → s.heap.get? b = some o → h'.get? b = some o)) E)
      PySem.F.called_set.init.plain PySem.F.entry_set_init (check_set_init_1 hT ?_)) fun r₂ s₂ hr₂ => ?_
    · obtain ⟨ol, hol, hcl, nl, hdl⟩ := hl
      obtain ⟨ocls, odict, odata, oslots⟩ := ol
      simp only at hcl hdl
      subst hcl hdl
      have d0 : (s.heap.push (freshS led)).get? l = some { cls := .type "list", dict := odict, data := .seq items nl, slots := oslots } := Heap.get?_push_of_some _ hol
      have d1 := PySem.F.sub_list_set
      have d2 := PySem.F.sub_list_frozenset
      have d3 : (Value.type "list" == Value.type "dict") = false := by decide
      have d4 : (s.heap.push (freshS led)).IsList l items := ⟨_, d0, rfl, nl, rfl⟩
      unfold Builtin.«set.__init__» noKeywords Builtin.Frozenset.updateFrom
      generalize hPI : pyIter = PI
      wp_walk
      subst hPI
      refine wpAny_pyIter_list d4 (wpAny_bind (wpAny_runValue ?_))
      have lt := Heap.lt_size hol
      have e0 : (s.heap.push (freshS led)).objs.size = s.heap.objs.size + 1 := Heap.size_push ..
      have e1 : l ≠ (s.heap.push (freshS led)).objs.size := by
        rw [e0]
        exact Nat.ne_of_lt (Nat.lt_succ_of_lt lt)
      have e2 : s.heap.objs.size ∉ [(s.heap.push (freshS led)).objs.size, l] := by
        rw [e0]
        intro z
        simp only [List.mem_cons, List.not_mem_nil, or_false] at z
        rcases z with z | z
        · exact Nat.ne_of_lt (Nat.lt_succ_self _) z
        · exact Nat.ne_of_gt lt z
      have e3 : xs.length = items.size := by rw [← StrsAre.len_eq hi, Array.length_toList]
      refine loop_texts ((Walks.list (by simp [hh]) _ l e1 items).toS) s.heap.objs.size e2 xs e3 (by omega) (fun i v hv => SS.strs_at hi i v (by rw [Array.getElem?_toList]; exact hv)) (items.size - 0) 0 _ (by omega) (Nat.zero_le _)
        ⟨⟨_, Heap.get?_push_size _ rfl, rfl, rfl⟩, (d4.push _)⟩ ?hS0 ?hR
      case hS0 =>
        have g := Heap.get?_push_of_some ({ cls := .type "list_iterator", data := .fields #[.ref l, .int 0 0] } : Obj) hS
        exact SetOf_congr ((setObjOf_fresh (knd := PySem.strKind prog w) led).setOf g (by unfold scanBound; omega)) (fun _ => rfl) rfl
      case hR =>
        intro s' hm hS'
        obtain ⟨h', g', d', tk', os'⟩ := s'
        obtain rfl : g' = s.gens := hm.gens
        obtain rfl : d' = s.drawn := hm.drawn
        obtain rfl : os' = s.os := hm.os
        rw [← e3] at hS'
        refine (show wpAny (model prog w) _ _ _ _ _ from wpAny_pure (show wpAny (model prog w) _ (ret Value.none) _ _ _ from wpAny_pure ⟨rfl, h', tk', rfl, hS', fun b o hb e => hm.heap b o ?_ (Heap.get?_push_of_some _ (Heap.get?_push_of_some _ e))⟩))
        intro z
        simp only [List.mem_cons, List.not_mem_nil, or_false] at z
        rw [e0] at z
        rcases z with z | z
        · exact Nat.ne_of_lt (by assumption) z
        · exact Nat.ne_of_lt (Nat.lt_succ_of_lt (by assumption)) z
    · match r₂, hr₂ with
      | .error e, hr₂ => exact hr₂
      | .ok .next, hr₂ => exact hr₂.elim
      | .ok .brk, hr₂ => exact hr₂.elim
      | .ok .cont, hr₂ => exact hr₂.elim
      | .ok (.ret r), ⟨e1, h', tk, e2, hS', hk'⟩ =>
        subst e1
        subst e2
        repeat (any_goals (first | assumption | wp_step))
        exact h _ _ hS' hk'
theorem set_tuple_texts {l : Addr} {items : Array Value} {xs : List Str} {Q : Value → Shared → Prop} (hh : A.handled = none) (hl : s.heap.IsTuple l items) (hi : StrsAre items.toList xs) (hb : xs.length + 1 < scanBound)
    (h : ∀ (h' : Heap) (tk : Nat), HoldsS prog w s.heap.objs.size xs xs.length h' → (∀ b o, b < s.heap.objs.size → s.heap.get? b = some o → h'.get? b = some o) → Q (.ref s.heap.objs.size) { s with heap := h', toks := tk }) :
    wpAny (model prog w) A (call (.type "set") [.ref l]) Q E s := by
  have c1 := PySem.F.called_set.mro
  obtain ⟨c, tl, hmro⟩ := c1
  have c2 := PySem.F.called_set.made
  have c3 := PySem.F.called_set.sub
  have c4 := PySem.F.called_set.notType
  have c5 := PySem.F.called_set.canCreate
  have c6 := PySem.F.typeCall_set_1 (.ref l)
  refine wpAny_call (codeAny_of_tree (show wpAny (model prog w) _ (callAny (.type "set") _) _ _ _ from wpAny_pure ⟨Code.quiet_builtin _ (by decide +kernel), codeAny_builtin PySem.F.entry_type_call ?_⟩))
  rw [Around.under_plain (weight_type_call_type "set" [.ref l] []) rfl]
  repeat (any_goals (first | assumption | wp_step))
  refine codeAny_mono (code_set_new_1 (.ref l) (E := E) (Q₁ := fun obj s₁ => ∃ led : Bool, obj = .ref s.heap.objs.size ∧ s₁ = { s with heap := s.heap.push (freshS led) }) fun led => ⟨led, rfl, rfl⟩) fun r s₁ hr => ?_
  match r, hr with
  | .error e, hr => exact hr
  | .ok .next, hr => exact hr.elim
  | .ok .brk, hr => exact hr.elim
  | .ok .cont, hr => exact hr.elim
  | .ok (.ret obj), ⟨led, e1, e2⟩ =>
    subst e1
    subst e2
    have hS : (s.heap.push (freshS led)).get? s.heap.objs.size = some (freshS led) := Heap.get?_push_size _ rfl
    have hT : Shared.TypeIs { s with heap := s.heap.push (freshS led) } (.ref s.heap.objs.size) "set" := ⟨_, hS, rfl⟩
    have c7 := PySem.F.called_set.init.lookup
    have c8 := PySem.F.called_set.init.bind (.ref s.heap.objs.size)
    repeat (any_goals (first | assumption | wp_step))
    refine codeAny_mono (codeAny_call_builtin (R := wants (fun r s₂ => r = .none ∧ ∃ h' tk, s₂ = { s with heap := h', toks := tk } ∧ HoldsS prog w s.heap.objs.size xs xs.length h' ∧ (∀ b o, b < s.heap.objs.size → s.heap.get? b = some o → h'.get? b = some o)) E)
      PySem.F.called_set.init.plain PySem.F.entry_set_init (check_set_init_1 hT ?_)) fun r₂ s₂ hr₂ => ?_
    · obtain ⟨ol, hol, hcl, nl, hdl⟩ := hl
      obtain ⟨ocls, odict, odata, oslots⟩ := ol
      simp only at hcl hdl
      subst hcl hdl
      have d0 : (s.heap.push (freshS led)).get? l = some { cls := .type "tuple", dict := odict, data := .seq items nl, slots := oslots } := Heap.get?_push_of_some _ hol
      have d1 := PySem.F.sub_tuple_set
      have d2 := PySem.F.sub_tuple_frozenset
      have d3 : (Value.type "tuple" == Value.type "dict") = false := by decide
      have d4 : (s.heap.push (freshS led)).IsTuple l items := ⟨_, d0, rfl, nl, rfl⟩
      unfold Builtin.«set.__init__» noKeywords Builtin.Frozenset.updateFrom
      generalize hPI : pyIter = PI
      wp_walk
      subst hPI
      refine wpAny_pyIter_tuple d4 (wpAny_bind (wpAny_runValue ?_))
      have lt := Heap.lt_size hol
      have e0 : (s.heap.push (freshS led)).objs.size = s.heap.objs.size + 1 := Heap.size_push ..
      have e1 : l ≠ (s.heap.push (freshS led)).objs.size := by
        rw [e0]
        exact Nat.ne_of_lt (Nat.lt_succ_of_lt lt)
      have e2 : s.heap.objs.size ∉ [(s.heap.push (freshS led)).objs.size, l] := by
        rw [e0]
        intro z
        simp only [List.mem_cons, List.not_mem_nil, or_false] at z
        rcases z with z | z
        · exact Nat.ne_of_lt (Nat.lt_succ_self _) z
        · exact Nat.ne_of_gt lt z
      have e3 : xs.length = items.size := by rw [← StrsAre.len_eq hi, Array.length_toList]
      refine loop_texts ((Walks.tuple (by simp [hh]) _ l e1 items).toS) s.heap.objs.size e2 xs e3 (by omega) (fun i v hv => SS.strs_at hi i v (by rw [Array.getElem?_toList]; exact hv)) (items.size - 0) 0 _ (by omega) (Nat.zero_le _)
        ⟨⟨_, Heap.get?_push_size _ rfl, rfl, rfl⟩, (d4.push _)⟩ ?hS0 ?hR
      case hS0 =>
        have g := Heap.get?_push_of_some ({ cls := .type "tuple_iterator", data := .fields #[.ref l, .int 0 0] } : Obj) hS
        exact SetOf_congr ((setObjOf_fresh (knd := PySem.strKind prog w) led).setOf g (by unfold scanBound; omega)) (fun _ => rfl) rfl
      case hR =>
        intro s' hm hS'
        obtain ⟨h', g', d', tk', os'⟩ := s'
        obtain rfl : g' = s.gens := hm.gens
        obtain rfl : d' = s.drawn := hm.drawn
        obtain rfl : os' = s.os := hm.os
        rw [← e3] at hS'
        refine (show wpAny (model prog w) _ _ _ _ _ from wpAny_pure (show wpAny (model prog w) _ (ret Value.none) _ _ _ from wpAny_pure ⟨rfl, h', tk', rfl, hS', fun b o hb e => hm.heap b o ?_ (Heap.get?_push_of_some _ (Heap.get?_push_of_some _ e))⟩))
        intro z
        simp only [List.mem_cons, List.not_mem_nil, or_false] at z
        rw [e0] at z
        rcases z with z | z
        · exact Nat.ne_of_lt (by assumption) z
        · exact Nat.ne_of_lt (Nat.lt_succ_of_lt (by assumption)) z
    · match r₂, hr₂ with
      | .error e, hr₂ => exact hr₂
      | .ok .next, hr₂ => exact hr₂.elim
      | .ok .brk, hr₂ => exact hr₂.elim
      | .ok .cont, hr₂ => exact hr₂.elim
      | .ok (.ret r), ⟨e1, h', tk, e2, hS', hk'⟩ =>
        subst e1
        subst e2
        repeat (any_goals (first | assumption | wp_step))
        exact h _ _ hS' hk'
end
def tLenSetS (K : PySem.W.Frag) (ta : TE) : TE := fun σ H Q => ta σ H fun x H1 => ∃ l, ∃ xs : List Str, x = .ref l ∧ (SqL K H1 l (xs.map V.str) ∨ SqT K H1 l (xs.map V.str)) ∧ xs.length + 1 < scanBound ∧ Q (.int (nd xs)) H1
theorem pe_lenSetS {X : Cx} {a : Expr} {ta : TE} {p p2 q pos : Pos} (hc : X.calm = true) (hg : Gl X "len") (hm : X.mg "len" = none) (hg2 : Gl X "set") (hm2 : X.mg "set" = none) (ha : PE X a ta) (na : starEach [a] X.env = (false, eval a X.env) :: starEach [] X.env := by rfl) :
    PE X (.Call (.Name "len" p) [.Call (.Name "set" p2) [a] [] q] [] pos) (tLenSetS X.K ta) := by
  refine ⟨fun pins s σ H Q I h => Call_ (ld_blt I hg hm boot_len (PyProof.Rows.callWith_builtin1 (PyProof.Rows.args_cons (Call_ (ld_blt I hg2 hm2 boot_set ?_)) rfl) rfl rfl))⟩
  refine PyProof.Rows.callWith_type1 (PyProof.Rows.args_cons (thn (ha.run pins s σ H _ I h) fun v s1 ⟨x, H1, I1, r1, q1⟩ => PyProof.Rows.args_nil ?_) na) na rfl
  obtain ⟨l, xs, rfl, hq, hb, q1⟩ := q1
  cases r1
  have fin : ∀ (h' : Heap) (tk : Nat), HoldsS X.prog X.w s1.heap.objs.size xs xs.length h' → (∀ b o, b < s1.heap.objs.size → s1.heap.get? b = some o → h'.get? b = some o) →
      wpAny (model X.prog X.w) X.A (spliced (backTo pos (starEach [] X.env))) (fun vs s₂ => wpAny (model X.prog X.w) X.A (call (.builtin "len") (Value.ref s1.heap.objs.size :: vs)) (EP X pins σ Q) X.xe s₂) X.xe { s1 with heap := h', toks := tk } := fun h' tk hS hk => by
    refine PyProof.Rows.args_nil ?_
    unfold HoldsS at hS
    rw [List.take_length] at hS
    have hle := nd_le xs
    obtain ⟨o, es, ep, t, ho, hex, hd, _, _, _, hf, hn⟩ := hS
    exact call_len_set ho hex hd hf (by unfold scanBound at hb; rw [hn]; omega) ⟨.int (nd xs), H1, (I1.kept fun b o e => hk b o (Heap.lt_size e) e).tok _, ⟨_, by rw [hn]⟩, q1⟩
  rcases hq with hq | hq
  · obtain ⟨its, r, pl, hz⟩ := I1.list hq
    exact set_list_texts (I1.ok.hd hc) pl.isList (by simpa using strsAre_of r) hb fin
  · obtain ⟨its, r, pl, hz⟩ := I1.tuple hq
    exact set_tuple_texts (I1.ok.hd hc) pl (by simpa using strsAre_of r) hb fin
end Ly
namespace Ly
open PySem PySem.Spec PyProof.Rows L2
theorem upd_back {H : Hp} {a : Addr} {o : HO} (h : H a = some o) : upd H a o = H := by
  funext c
  by_cases e : c = a
  · subst e; rw [upd_same]; exact h.symm
  · rw [upd_ne e]
theorem pairedAt {α β : Type} {F : α → β → Prop} : ∀ {l₁ : List α} {l₂ : List β}, Paired F l₁ l₂ → ∀ (i : Nat) (h1 : i < l₁.length) (h2 : i < l₂.length), F l₁[i] l₂[i]
  | _, _, .nil, i, h1, _ => absurd h1 (Nat.not_lt_zero _)
  | _, _, .cons h r, 0, _, _ => h
  | _, _, .cons h r, i + 1, h1, h2 => pairedAt r i (Nat.lt_of_succ_lt_succ h1) (Nat.lt_of_succ_lt_succ h2)
/-- two values are asked for == below the running body (around A'), under rv -/
def EqAtR (X : Cx) (A' : Around) (rv : R2) : Prop := ∀ (pins : List (Addr × Obj)) (s : Shared) (σ : L2.St) (H : Hp) (x y : V) (v u : Value) (Q : VK) (E : Value → Shared → Prop), Inv X pins σ H s → RelV x v → RelV y u → rv x y H Q →
  wpAny (model X.prog X.w) A' (eqBool v u) (fun b s' => ∃ H', Inv X pins σ H' s' ∧ Q (.bl b) H') E s
/-- the pairs in turn, up to the first that says no -/
def eqEach (rv : R2) (a b : Addr) (fa : HO) (kb : List (Key × V)) : List (Key × V) → (Bool → Hp → Prop) → Hp → Prop
  | [], Q, H => Q true H
  | (k, v) :: r, Q, H => (valV kb k = none ∧ Q false H) ∨ ∃ y, valV kb k = some y ∧ rv v y H fun z H1 => ∃ c, z = .bl c ∧ H1 a = some fa ∧ Rd H1 b (.dK kb) ∧ ((c = true ∧ eqEach rv a b fa kb r Q H1) ∨ (c = false ∧ Q false H1))
section
variable {X : Cx} {pins : List (Addr × Obj)} {σ : L2.St} {H : Hp} {s : Shared} {A : Around} {E : Value → Shared → Prop} {a b : Addr} {ka kb : List (Key × V)} {od : Obj} {rv : R2} {nm : String}
theorem samePairsI {Q : Bool → Hp → Prop} (I : Inv X pins σ H s) (ha : H a = some (.frz od (.dK ka))) (hb : Rd H b (.dK kb)) (hv : EqAtR X A rv) (c : (ka.length = kb.length ∧ eqEach rv a b (.frz od (.dK ka)) kb ka Q H) ∨ (ka.length ≠ kb.length ∧ Q false H)) :
    wpAny (model X.prog X.w) A (Builtin.Dict.samePairs nm a b) (fun r s' => ∃ H', Inv X pins σ H' s' ∧ H' a = some (.frz od (.dK ka)) ∧ Q r H') E s := by
  obtain ⟨hoa, xa⟩ := I.hok a _ ha
  obtain ⟨_, ya, va, ra, da⟩ := (show ObjOk X.prog X.w H s.heap a (.dK ka) from xa)
  obtain ⟨_, yb, vb, rb, db⟩ := dk_rd I.hok hb
  obtain ⟨oa, es, ep, hoa', _, hda, hka, hpa, _⟩ := da
  cases hoa.symm.trans hoa'
  obtain ⟨ob, es', ep', hob, _, hdb, hkb, hpb, _⟩ := db
  have hla : va.length = es.size := by rw [← hpa.length]; exact Array.length_toList
  have hlb : vb.length = es'.size := by rw [← hpb.length]; exact Array.length_toList
  have hlk : ka.length = es.size := by rw [ra.length]; exact hla
  have hlk2 : kb.length = es'.size := by rw [rb.length]; exact hlb
  unfold Builtin.Dict.samePairs Builtin.Dict.showsAll
  rw [if_neg (show ¬ (a == sysModules) = true by rw [ya]; exact Bool.false_ne_true), if_neg (show ¬ (b == sysModules) = true by rw [yb]; exact Bool.false_ne_true)]
  refine wpAny_bind (wpAny_pure (wpAny_bind (wpAny_pure ?_)))
  refine wpAny_bind (wpAny_dictEntries hoa hda ?_)
  dsimp only
  refine wpAny_bind (wpAny_dictEntries hob hdb ?_)
  rcases c with ⟨hl, c⟩ | ⟨hl, c⟩
  case inr =>
    rw [if_pos (by simpa [← hlk, ← hlk2] using hl)]
    exact wpAny_bind (wpAny_rule (wpAny_pure ⟨H, I, ha, c⟩))
  have hsz : es.size = es'.size := by rw [← hlk, ← hlk2]; exact hl
  rw [if_neg (by rw [hsz]; simp)]
  refine wpAny_bind (wpAny_dictEpoch hoa hda ?_)
  refine wpAny_bind ?_
  rw [Std.Legacy.Range.forIn_eq_forIn_range']
  simp only [Std.Legacy.Range.size, Nat.sub_zero, Nat.add_sub_cancel, Nat.div_one]
  clear hob hdb hkb hpb hlb hsz rb hlk2
  refine wpAny_forIn_list _
    (fun rest q s' => q = (none, ()) ∧ ∃ i H', rest = List.range' i (es.size - i) ∧ i ≤ es.size ∧ Inv X pins σ H' s' ∧ H' a = some (.frz od (.dK ka)) ∧ Rd H' b (.dK kb) ∧ eqEach rv a b (.frz od (.dK ka)) kb (ka.drop i) Q H')
    _ ?_ ?_ _ _ ⟨rfl, 0, H, by simp, Nat.zero_le _, I, ha, hb, c⟩
  · rintro x rest q s' ⟨rfl, i, H', hr, hi, I', ha', hb', pre⟩
    obtain ⟨hoa1, _⟩ := I'.hok a _ ha'
    have hlt : i < es.size := by
      rcases Nat.lt_or_ge i es.size with h | h
      · exact h
      · rw [Nat.sub_eq_zero_of_le h] at hr; simp at hr
    obtain ⟨rfl, hrest⟩ : x = i ∧ rest = List.range' (i + 1) (es.size - (i + 1)) := by
      have e : es.size - i = (es.size - (i + 1)) + 1 := by omega
      rw [e, List.range'_succ] at hr
      injection hr with h1 h2
      exact ⟨h1, h2⟩
    refine wpAny_bind (wpAny_dictEntries hoa1 hda ?_)
    rw [Array.getElem?_eq_getElem hlt]
    have hlt' : x < va.length := by rw [hla]; exact hlt
    have hltk : x < ka.length := by rw [hlk]; exact hlt
    obtain ⟨k, v, hkv⟩ : ∃ k v, va[x] = (k, v) := ⟨_, _, rfl⟩
    obtain ⟨k2, w, hkw⟩ : ∃ k v, ka[x] = (k, v) := ⟨_, _, rfl⟩
    obtain ⟨ek2, rw2⟩ : k2 = k ∧ RelV w v := by
      have z := pairedAt ra x hltk hlt'
      rw [hkw, hkv] at z
      exact z
    subst ek2
    have hdrop : ka.drop x = (k2, w) :: ka.drop (x + 1) := by rw [← hkw]; exact List.drop_eq_getElem_cons hltk
    obtain ⟨hkey, hval⟩ := hpa.get? (i := x) (e := es[x]) (k := k2) (v := v) (by rw [Array.getElem?_toList]; exact Array.getElem?_eq_getElem hlt) (by rw [List.getElem?_eq_getElem hlt', hkv])
    obtain ⟨k', hk', hh⟩ := hka es[x] (Array.getElem_mem hlt)
    have ekk : k' = k2 := (mixKind X.prog X.w).inj _ _ _ hk' hkey
    rw [ekk] at hh
    rw [hdrop] at pre
    obtain ⟨_, _, vb1, rb1, db1⟩ := dk_rd I'.hok hb'
    obtain ⟨ob, es', ep', hob, _, hdb, hkb, hpb, _⟩ := db1
    have hfind : ∀ k, findBy (mixKind X.prog X.w).is es' k = valueAt vb1 k := fun k => by
      rw [← hpb.find k]
      clear hpb hkb hdb hob
      obtain ⟨l⟩ := es'
      simp [findBy]
    have rv1 := rb1.val k2
    show wpAny _ _ (holding [es[x].key, es[x].val] _ >>= _) _ _ _
    rw [hh]
    refine wpAny_bind (wpAny_holding (wpAny_bind (wpAny_dictFind_of hkey hob hdb hkb ?_)))
    cases hj : es'.findIdx? fun e => (mixKind X.prog X.w).is k2 e.key with
    | none =>
      have hn : valueAt vb1 k2 = none := by rw [← hfind k2, findBy_of_findIdx?, hj]
      rw [hn] at rv1
      have hv0 : valV kb k2 = none := by
        cases e : valV kb k2 with
        | none => rfl
        | some y => rw [e] at rv1; exact (show False from rv1).elim
      rcases pre with ⟨_, q0⟩ | ⟨y, hy, _⟩
      · refine wpAny_pure ?_
        show wpAny _ _ (if (!false) = true then _ else _) _ _ _
        rw [if_pos (by decide)]
        exact wpAny_pure (wpAny_pure ⟨H', I', ha', q0⟩)
      · rw [hv0] at hy; exact nomatch hy
    | some j =>
      obtain ⟨hjlt, _, _⟩ := Array.findIdx?_eq_some_iff_getElem.mp hj
      have hv' : valueAt vb1 k2 = some es'[j].val := by
        rw [← hfind k2, findBy_of_findIdx?, hj]
        simp [Array.getElem?_eq_getElem hjlt]
      rw [hv'] at rv1
      rcases pre with ⟨hn, _⟩ | ⟨y, hy, hrv⟩
      · rw [hn] at rv1; exact (show False from rv1).elim
      rw [hy] at rv1
      refine wpAny_bind (wpAny_dictEntries hob hdb ?_)
      rw [Array.getElem?_eq_getElem hjlt]
      refine wpAny_holding (wpAny_mono (hv pins s' σ H' w y es[x].val es'[j].val _ _ I' (by rw [hval]; exact rw2) rv1 hrv) (fun bb s2 hq => ?_) fun _ _ e => e)
      obtain ⟨H2, I2, c, eb, ha2, hb2, more⟩ := hq
      cases eb
      rcases more with ⟨rfl, more⟩ | ⟨rfl, q0⟩
      · obtain ⟨hoa2, _⟩ := I2.hok a _ ha2
        show wpAny _ _ (if (!true) = true then _ else _) _ _ _
        rw [if_neg (by decide)]
        refine wpAny_bind (wpAny_dictEpoch hoa2 hda ?_)
        rw [if_neg (by simp)]
        exact wpAny_pure ⟨rfl, x + 1, H2, hrest, hlt, I2, ha2, hb2, more⟩
      · show wpAny _ _ (if (!false) = true then _ else _) _ _ _
        rw [if_pos (by decide)]
        exact wpAny_pure (wpAny_pure ⟨H2, I2, ha2, q0⟩)
  · rintro q s' ⟨rfl, i, H', hr, hi, I', ha', hb', pre⟩
    have hin : i = es.size := by
      rcases Nat.lt_or_ge i es.size with h | h
      · have e : es.size - i = (es.size - (i + 1)) + 1 := by omega
        rw [e, List.range'_succ] at hr; exact nomatch hr
      · exact Nat.le_antisymm hi h
    rw [hin, ← hlk, List.drop_length] at pre
    exact wpAny_pure ⟨H', I', ha', pre⟩
end
section
open PySem.W PySem.Calls
variable {X : Cx} {A' : Around}
/-- the very same object -/
def rEqSame : R2 := fun x y H Q => ∃ a : Addr, x = .ref a ∧ y = .ref a ∧ Q (.bl true) H
theorem eqAt_refl : EqAtR X A' rEqSame := by
  intro pins s σ H x y v u Q E I rx ry h
  obtain ⟨a, rfl, rfl, q⟩ := h
  cases (show v = Value.ref a from rx)
  cases (show u = Value.ref a from ry)
  exact (SeqAt.EqAt.same (A := A') (s := s) (Value.ref a)).eqP E _ ⟨H, I, q⟩
/-- data, equal or not -/
theorem eqAt_data (hu : A'.units + 64 < cLine) : EqAtR X A' (rEqD X.K) := by
  intro pins s σ H x y v u Q E I rx ry h
  obtain ⟨d, e, h1, h2, sd, se, q⟩ := h
  obtain ⟨as, r1⟩ := Dp.reads I d _ v h1 rx
  obtain ⟨bs, r2⟩ := Dp.reads I e _ u h2 ry
  exact (SeqAt.eqAt_reads d e A' s v u as bs r1 r2 (SeqAt.canLay_of_shaped sd) (SeqAt.canLay_of_shaped se) (SeqAt.room_of_shaped sd hu)).eqP E _ ⟨H, I, q⟩
/-- two objects of an own class with an own __eq__ -/
def rEqObj (C : Addr) (sp : Sp) : R2 := fun x y H Q => ∃ a b dx fs dy gs, x = .ref a ∧ y = .ref b ∧ a ≠ b ∧ H a = some (.ins C dx fs) ∧ H b = some (.ins C dy gs) ∧ sp [x, y] H (bq id Q) E0
theorem eqAt_obj {C f : Addr} {fd : FuncData} {ps : List Str} {sp : Sp} {k : Nat} (F : FnOk X.prog X.w X.K X.mg X.base CX0 k f fd ps sp) (hr : Room k A') (hfr : A'.frames = X.A.frames) (hb : Binds X.K fd ps []) (hs : findIn X.K (.ref C) "__eq__" = some (some (.ref f))) (hf : isFn X.K (.ref f) = true) :
    EqAtR X A' (rEqObj C sp) := by
  intro pins s σ H x y v u Q E I rx ry h
  obtain ⟨a, b, dx, fs, dy, gs, rfl, rfl, ne, ha, hb', q⟩ := h
  cases (show v = Value.ref a from rx)
  cases (show u = Value.ref b from ry)
  obtain ⟨mA, J, _⟩ := ins_get I.hok ha
  obtain ⟨od, J, _⟩ := J.look
  obtain ⟨mB, J', _⟩ := ins_get I.hok hb'
  obtain ⟨od', J', _⟩ := J'.look
  obtain ⟨m, hF⟩ := I.fr
  unfold eqBool
  refine wpAny_holding ?_
  refine wpAny_ite_split (fun hab => absurd (by have := eq_of_beq hab; injection this) ne) (fun _ => ?_)
  have body : wpAny (model X.prog X.w) A' (richCompare .Eq (.ref a) (.ref b)) (fun r s' => ∃ c H', r = .bool c ∧ L2.Inv X pins σ H' s' ∧ Q (.bl c) H') E s := by
    refine PySem.W.cmp_K (op := .Eq) (tb := .ref C) hr.units0 hF I.ok.mod.kin J J'.type (by simp [PySem.W.notFirst]) hs hf ?_
    refine wpAny_mono (run_at (us := [.ref a, .ref b]) (vs := [.ref a, .ref b]) F hr hfr hb I (.cons rfl (.cons rfl .nil)) q) (fun r s' hv => ?_) fun _ _ e => e
    obtain ⟨v0, H', I', rv, c, rfl, qv⟩ := hv
    cases rv
    exact ⟨c, H', rfl, I', qv⟩
  refine wpAny_bind (wpAny_mono body (fun r s' hq => ?_) fun _ _ e => e)
  obtain ⟨c, H', rfl, I', qv⟩ := hq
  exact wpAny_truthy_bool ⟨H', I', qv⟩
/-- one of two ways -/
def rEqOr (r1 r2 : R2) : R2 := fun x y H Q => r1 x y H Q ∨ r2 x y H Q
theorem eqAt_or {r1 r2 : R2} (h1 : EqAtR X A' r1) (h2 : EqAtR X A' r2) : EqAtR X A' (rEqOr r1 r2) := fun pins s σ H x y v u Q E I rx ry h => h.elim (h1 pins s σ H x y v u Q E I rx ry) (h2 pins s σ H x y v u Q E I rx ry)
end
end Ly
namespace Ly
open PySem PySem.Spec PyProof.Rows L2
end Ly
namespace Ly
open PySem PySem.Spec PyProof.Rows L2
end Ly
namespace L2
open PySem PySem.Spec PyProof.Rows
section
variable {X : Cx}
def rLenR : List V → Hp → VK → Prop := fun xs H Q => ∃ a kvs, xs = [V.ref a] ∧ Rd H a (.dK kvs) ∧ Q (.int kvs.length) H
theorem call_lenR : CallR X (.builtin "len") rLenR := by
  intro pins s σ H xs us Q I r h
  obtain ⟨a, kvs, rfl, ha, q⟩ := h
  obtain ⟨u, rfl, ru⟩ := vals1 r
  cases ru
  exact d_len I ha fun t s' I' => ⟨.int kvs.length, H, I', ⟨t, rfl⟩, q⟩
def rListR : List V → Hp → VK → Prop := fun xs H Q => ∃ (a : Addr) (kvs : List (Key × V)), xs = [.ref a] ∧ Rd H a (.dK kvs) ∧ ∀ p, H p = none → Q (.ref p) (upd H p (.lst (kvs.map fun kv => kV kv.1)))
theorem call_listR (hcalm : X.calm = true) : CallR X (.type "list") rListR := call_listD hcalm
def rSortedR : List V → Hp → VK → Prop := fun xs H Q => ∃ (a : Addr) (kvs : List (Key × V)) (ks : List Str), xs = [.ref a] ∧ Rd H a (.dK kvs) ∧ kvs.map (·.1) = ks.map Sum.inr ∧ ks.length < 64 ∧
    ∀ ys p, ys.Perm ks → sortedS ys = true → H p = none → Q (.ref p) (upd H p (.lst (ys.map V.str)))
theorem call_sortedR (hcalm : X.calm = true) : CallR X (.builtin "sorted") rSortedR := call_sortedD hcalm
def rDictP (K : PySem.W.Frag) : List V → Hp → VK → Prop := fun xs H Q => ∃ (a : Addr) (ps : List Addr) (kvs : List (Key × V)), xs = [.ref a] ∧ SqL K H a (ps.map V.ref) ∧ Paired (fun p kv => SqT K H p [kV kv.1, kv.2]) ps kvs ∧
    ∀ p, H p = none → Q (.ref p) (upd H p (.dK (mergeK [] kvs)))
theorem call_dictPR (hcalm : X.calm = true) : CallR X (.type "dict") (rDictP X.K) := call_dictP hcalm
def rStrS : List V → Hp → VK → Prop := fun xs H Q => ∃ a, xs = [.str a] ∧ Q (.str a) H
theorem call_strS : CallR X (.type "str") rStrS := SkE.call_str_str
def rLcm : List V → Hp → VK → Prop := fun vs H Q => ∃ a b : Int, vs = [.int a, .int b] ∧ a.natAbs < 2 ^ 12000 ∧ b.natAbs < 2 ^ 12000 ∧ (Int.lcm a b) < 2 ^ 30000 ∧ Q (.int ((Int.lcm a b : Nat) : Int)) H
theorem call_lcm : CallR X (.builtin "math.lcm") rLcm := by
  intro pins s σ H vs us Q I r h
  obtain ⟨a, b, rfl, ha, hb, hz, q⟩ := h
  obtain ⟨t, u, rfl⟩ := Vals.int2 r
  have e : ((Nat.lcm 1 a.natAbs).lcm b.natAbs : Nat) = Int.lcm a b := by rw [Nat.lcm_one_left]; rfl
  have h1 : (max 1 a.natAbs).log2 ≤ 11999 := PySem.W.mg_log (by
    have : 1 < 2 ^ (11999 + 1) := Nat.one_lt_two_pow (by omega)
    omega)
  have h2 : (max a.natAbs b.natAbs).log2 ≤ 11999 := PySem.W.mg_log (by
    show max a.natAbs b.natAbs < 2 ^ (11999 + 1)
    omega)
  have h3 : ((((Nat.lcm 1 a.natAbs).lcm b.natAbs : Nat) : Int)).natAbs.log2 < bitsLine := by
    rw [e, Int.natAbs_natCast]
    have : (Int.lcm a b).log2 ≤ 29999 := PySem.W.mg_log (show Int.lcm a b < 2 ^ (29999 + 1) from hz)
    have hbl : 30000 ≤ bitsLine := by decide
    omega
  refine PySem.call_function_meets PySem.W.MGF.kind_lcm PySem.W.MGF.plain_lcm PySem.W.MGF.entry_lcm (PySem.W.MGF.args_lcm _ _) (PySem.W.mg_run_lcm a t b u (by omega) (by omega) h3).meets ?_
  rw [e]
  exact ⟨.int _, H, I.tok _, ⟨_, rfl⟩, q⟩
/-- list(d.values()) -/
def tListVals (td : TE) : TE := fun σ H Q => td σ H fun x H1 => ∃ (a : Addr) (kvs : List (Key × V)), x = .ref a ∧ Rd H1 a (.dK kvs) ∧ ∀ p, H1 p = none → Q (.ref p) (upd H1 p (.lst (kvs.map (·.2))))
variable {o : Expr} {p pos apos mpos : Pos} {td : TE}
theorem vals_snd : ∀ {kvs : List (Key × V)} {vs : List (Key × Value)} {l : List Value}, KV kvs vs → l.length = vs.length → (∀ (j : Nat) (v : Value), l[j]? = some v → ∃ k, vs[j]? = some (k, v)) → Vals (kvs.map (·.2)) l := by
  intro kvs vs l r hl h
  have e : l = vs.map (·.2) := PySem.W.kdl_vals_eq l hl h
  subst e
  clear hl h
  unfold KV at r
  induction r with
  | nil => exact .nil
  | cons r t ih => exact .cons r.2 ih
theorem pe_listVals (hc : X.calm = true) (hg : Gl X "list") (hm : X.mg "list" = none) (hd : PE X o td) (hbase : attributeBase o "values" X.env (eval o X.env) = eval o X.env := by rfl) (hline : (apos.endLine == mpos.line) = true := by rfl)
    (hse : starEach [Expr.Call (.Attribute o "values" apos) [] [] mpos] X.env = (false, eval (Expr.Call (.Attribute o "values" apos) [] [] mpos) X.env) :: starEach [] X.env := by rfl) :
    PE X (.Call (.Name "list" p) [.Call (.Attribute o "values" apos) [] [] mpos] [] pos) (tListVals td) := by
  refine ⟨fun pins s σ H Q I h => ?_⟩
  refine wpAny_Call_Name_kw (ld_blt I hg hm boot_list ?_ (by first | decide +kernel | decide) (by first | decide +kernel | decide))
  refine PyProof.Rows.callWith_type1 (args_cons (wpAny_Call_method0_late hbase hline (thn (hd.run pins s σ H _ I h) fun v s1 ⟨x, H1, I1, r1, a, kvs, ex, ha, q⟩ => ?_)) hse) hse
  subst ex
  cases (show v = Value.ref a from r1)
  obtain ⟨hz, hsys, vs, rel, dof⟩ := dk_rd I1.hok ha
  obtain ⟨ep, dat⟩ := dof.dictAt
  have dat' := dat
  obtain ⟨ob, es, ho, ex, hdat, hko, hpr, hnd⟩ := dat'
  refine ⟨"dict", "dict.values", F.plainAttrs_dict, F.slot_dict_values, F.type_dict_values, ⟨ob, ho, ex.1⟩, fun b e => ?_, Calls.callWith_builtin rfl (PySem.evalArgs_none ?_)⟩
  · cases e
    exact ⟨ob, ho, ex.2.1⟩
  refine call_meetsIn F.slot_dict_values ⟨ob, ho, ex.1⟩ F.entry_dict_values (F.args_dict_values_1 _) (meets_dict_values (mixKind X.prog X.w) a hsys) ⟨⟨vs, dof⟩, ?_⟩
  refine args_nil ?_
  have k1 : ∀ b u, s1.heap.get? b = some u → (s1.heap.push { cls := .type "dict_values", data := .fields #[.ref a] }).get? b = some u := fun b u e => Heap.get?_push_of_some _ e
  have dat1 : (s1.heap.push { cls := .type "dict_values", data := .fields #[.ref a] }).DictAt (mixKind X.prog X.w) a vs ep := dat.keep k1
  have I2 : Inv X pins σ H1 { s1 with heap := s1.heap.push { cls := .type "dict_values", data := .fields #[.ref a] } } := I1.kept (t' := s1.toks) k1
  refine PySem.W.kdl_call (PySem.W.kdl_values (knd := mixKind X.prog X.w) (kvs := vs) (ep := ep)) (I1.ok.hd hc) ⟨⟨_, Heap.get?_push_size _ rfl, rfl, rfl⟩, dat1⟩ (by rw [← rel.length]; exact hz) fun h' tk acc c' hk hD hacc => ?_
  have hv : Vals (kvs.map (·.2)) acc.toList := vals_snd rel (by rw [Array.length_toList]; exact hacc.1) fun j v e => hacc.2 j v (by rw [← Array.getElem?_toList]; exact e)
  refine ⟨.ref _, upd H1 _ (.lst (kvs.map (·.2))), I2.laid (t' := tk) hk (Nat.le_refl _)
    (show ObjOk X.prog X.w _ _ _ (.lst (kvs.map (·.2))) from ⟨by rw [List.length_map]; exact hz, acc.toList, c', hv, by rw [Array.toArray_toList]; exact hD⟩), rfl, q _ (I2.hok.fresh (Nat.le_refl _))⟩
end
end L2
namespace Dt
open PySem PySem.Spec PyProof.Rows L2 Ly
def mergeD (acc more : List (Key × D)) : List (Key × D) := more.foldl (fun acc kv => putD acc kv.1 kv.2) acc
theorem merge_at {H : Hp} : ∀ {mv : List (Key × V)} {md : List (Key × D)} {av : List (Key × V)} {ad : List (Key × D)}, mv.map (·.1) = md.map (·.1) → Ats H (mv.map (·.2)) (md.map (·.2)) → av.map (·.1) = ad.map (·.1) → Ats H (av.map (·.2)) (ad.map (·.2)) →
    (mergeK av mv).map (·.1) = (mergeD ad md).map (·.1) ∧ Ats H ((mergeK av mv).map (·.2)) ((mergeD ad md).map (·.2))
  | [], [], _, _, _, _, e, a => ⟨e, a⟩
  | [], _ :: _, _, _, h, _, _, _ => by cases h
  | _ :: _, [], _, _, h, _, _, _ => by cases h
  | (x, v) :: mv, (y, d) :: md, av, ad, h, t, e, a => by
    simp only [List.map_cons, List.cons.injEq] at h
    obtain ⟨e0, h⟩ := h
    have e0 : x = y := e0
    subst e0
    cases t with
    | cons a1 t =>
      obtain ⟨p1, p2⟩ := put_at (k := x) a1 e a
      have z := merge_at (mv := mv) (md := md) h t p1 p2
      exact z
theorem putD_new {kd : List (Key × D)} {k : Key} {d : D} (h : k ∉ kd.map (·.1)) : putD kd k d = kd ++ [(k, d)] := by
  unfold putD
  rw [if_neg]
  rw [Bool.not_eq_true, List.any_eq_false]
  intro p hp hc
  exact h (List.mem_map.mpr ⟨p, hp, of_decide_eq_true hc⟩)
theorem mergeD_fresh : ∀ (more acc : List (Key × D)), ((acc ++ more).map (·.1)).Nodup → mergeD acc more = acc ++ more
  | [], acc, _ => by simp [mergeD]
  | kv :: rest, acc, hn => by
    have hf : kv.1 ∉ acc.map (·.1) := fun m => by
      rw [List.map_append, List.map_cons, List.nodup_append] at hn
      exact hn.2.2 _ m _ List.mem_cons_self rfl
    show mergeD (putD acc kv.1 kv.2) rest = _
    rw [putD_new hf, mergeD_fresh rest (acc ++ [kv]) (by simpa using hn)]
    simp
theorem mergeD_nil {ka : List (Key × D)} (h : (ka.map (·.1)).Nodup) : mergeD [] ka = ka := mergeD_fresh ka [] (by simpa using h)
def pairD (p : Key × D) : D := .tup [dKey p.1, p.2]
theorem kV_at {H : Hp} {v : V} {k : Key} (a : At H v (dKey k)) : v = kV k := by
  cases k with
  | inl i => cases a; rfl
  | inr s => cases a; rfl
/-- a list of pairs -/
theorem pairs_at {K : PySem.W.Frag} {X : Xs} {H : Hp} : ∀ {vs : List V} {ps : List (Key × D)}, Ats (cut X H) vs (ps.map pairD) → ∃ (as : List Addr) (kvs : List (Key × V)), vs = as.map V.ref ∧ Paired (fun p kv => SqT K H p [kV kv.1, kv.2]) as kvs ∧ kvs.map (·.1) = ps.map (·.1) ∧ Ats (cut X H) (kvs.map (·.2)) (ps.map (·.2))
  | _, [], a => by cases a; exact ⟨[], [], rfl, .nil, rfl, .nil⟩
  | _, p :: ps, a => by
    cases a with
    | cons a t =>
      obtain ⟨as, kvs, rfl, h1, h2, h3⟩ := pairs_at t
      cases a with
      | tup e t2 =>
        cases t2 with
        | cons b1 t2 =>
          cases t2 with
          | cons b2 t2 =>
            cases t2
            have z := kV_at b1
            subst z
            exact ⟨_ :: as, (p.1, _) :: kvs, rfl, .cons (SqT.of (of_cut e).2) h1, by rw [List.map_cons, List.map_cons, h2], .cons b2 h3⟩
section
variable {π : Po} {δ : List Rv} {k : Rv → Prop} {ta tb te td tx : TE} {t : TA} {K : PySem.W.Frag}
theorem wcb_lenD {a : Rv} {kd : List (Key × D)} (hf : a.kd = some kd) (q : k (.d (.int kd.length))) : WCb π rLenR [a] k := fun X H0 H xs Q o0 o k0 ra h => by
  match xs, ra with
  | [x], ⟨ra, _⟩ =>
    obtain ⟨p, kv, rfl, e, ek, t⟩ := ra.kd hf
    have hl : kv.length = kd.length := by simpa using congrArg List.length ek
    refine ⟨p, kv, rfl, e, ?_⟩
    rw [hl]
    exact h _ (.d (.int kd.length)) H o.kp (At.int _) q
theorem wcb_listD {a : Rv} {kd : List (Key × D)} (hf : a.kd = some kd) (q : k (.new (.lst (kd.map fun p => dKey p.1)))) : WCb π rListR [a] k := fun X H0 H xs Q o0 o k0 ra h => by
  match xs, ra with
  | [x], ⟨ra, _⟩ =>
    obtain ⟨p, kv, rfl, e, ek, t⟩ := ra.kd hf
    refine ⟨p, kv, rfl, e, fun p' np => new_lst o k0 o0 ?_ h q p' np⟩
    have e1 : (kv.map fun p => kV p.1) = (kd.map (·.1)).map kV := by rw [← ek, List.map_map]; rfl
    have e2 : (kd.map fun p => dKey p.1) = (kd.map (·.1)).map dKey := by rw [List.map_map]; rfl
    rw [e1, e2]
    exact keys_at _
theorem wcb_sortedD {a : Rv} {kd : List (Key × D)} {ks : List Str} (hf : a.kd = some kd) (hk : kd.map (·.1) = ks.map Sum.inr) (h64 : ks.length < 64) (q : ∀ ys : List Str, ys.Perm ks → sortedS ys = true → k (.new (.lst (ys.map D.str)))) : WCb π rSortedR [a] k := fun X H0 H xs Q o0 o k0 ra h => by
  match xs, ra with
  | [x], ⟨ra, _⟩ =>
    obtain ⟨p, kv, rfl, e, ek, t⟩ := ra.kd hf
    exact ⟨p, kv, ks, rfl, e, ek.trans hk, h64, fun ys p' pm so np => new_lst o k0 o0 (strs_at ys) h (q ys pm so) p' np⟩
theorem wcb_dictP {a : Rv} {ps : List (Key × D)} (hf : a.li = some (ps.map pairD)) (q : k (.new (.dct (mergeD [] ps)))) : WCb π (rDictP K) [a] k := fun X H0 H xs Q o0 o k0 ra h => by
  match xs, ra with
  | [x], ⟨ra, _⟩ =>
    obtain ⟨p, vs, rfl, e, t⟩ := ra.li hf
    obtain ⟨as, kvs, rfl, h1, h2, h3⟩ := pairs_at (K := K) t
    refine ⟨p, as, kvs, rfl, SqL.of e, h1, fun p' np => ?_⟩
    obtain ⟨m1, m2⟩ := merge_at h2 h3 (av := []) (ad := []) rfl .nil
    exact h (.ref p') (.new (.dct (mergeD [] ps))) _ (o.kp.add o np) (new_at o np ⟨mergeK [] kvs, upd_same, m1, m2.mono (up_mo np)⟩ k0 o0) q
theorem wcb_strS {s : Str} (q : k (.d (.str s))) : WCb π rStrS [.d (.str s)] k := fun X H0 H xs Q o0 o k0 ra h => by
  match xs, ra with
  | [x], ⟨ra, _⟩ => cases ra; exact ⟨s, rfl, h _ (.d (.str s)) H o.kp (At.str _) q⟩
theorem wcb_lcm {i j : Int} (hi : Sz 12000 i) (hj : Sz 12000 j) (hz : Sz 30000 (Int.lcm i j : Nat)) (q : k (.d (.int (Int.lcm i j : Nat)))) : WCb π rLcm [.d (.int i), .d (.int j)] k := fun X H0 H xs Q o0 o k0 ra h => by
  match xs, ra with
  | [x, y], ⟨ra, rb, _⟩ => cases ra; cases rb; exact ⟨i, j, rfl, hi, hj, by unfold Sz at hz; rwa [Int.natAbs_natCast] at hz, h _ (.d (.int (Int.lcm i j : Nat))) H o.kp (At.int _) q⟩
theorem w_listVals (q : Wp π td δ fun r => ∃ kd, r.kd = some kd ∧ k (.new (.lst (kd.map (·.2))))) : Wp π (tListVals td) δ k := fun X H σ Q o e h => by
  refine q X H σ _ o e fun v r H1 k1 a w => ?_
  obtain ⟨kd, hf, kk⟩ := w
  obtain ⟨p, kv, rfl, e1, ek, t⟩ := a.kd hf
  exact ⟨p, kv, rfl, e1, fun p' np => new_lst (H0 := H) (o.keep k1) k1 o t (fun v z H' k2 => h v z H' (k1.trans k2)) kk p' np⟩
def KitD (K : PySem.W.Frag) (x : D) (us : List Value) (b : Bool) : Prop := ∃ t, (∀ (X : Xs) (H : Hp) (v : V), At (cut X H) v x → TyX K H v t) ∧ PySem.W.kitAny K t us = some b
theorem kitD_ty {x : D} {n1 n2 : String} {b1 b2 : Bool} (ho : isObj x = false) (h1 : kitB (tyN x) n1 = some b1) (h2 : kitB (tyN x) n2 = some b2) : KitD K x [.type n1, .type n2] (b1 || b2) := by
  refine ⟨_, fun X H v a => at_ty a ho, ?_⟩
  show (match PySem.W.kitOne K (.type (tyN x)) (.type n1) with | some true => some true | some false => PySem.W.kitAny K (.type (tyN x)) [.type n2] | none => none) = _
  rw [kit_ty h1]
  cases b1 with
  | true => rfl
  | false =>
    show (match PySem.W.kitOne K (.type (tyN x)) (.type n2) with | some true => some true | some false => PySem.W.kitAny K (.type (tyN x)) [] | none => none) = _
    rw [kit_ty h2]
    cases b2 <;> rfl
theorem w_isi2 {n1 n2 : String} (q : Wp π tx δ fun r => ∃ x b, r.fz = some x ∧ KitD K x [.type n1, .type n2] b ∧ k (.d (.bl b))) :
    Wp π (tCB (rIsiT K) (tCons tx (tCons (tTup (tCons (tC (.ty n1)) (tCons (tC (.ty n2)) tNil))) tNil))) δ k := fun X H σ Q o e h => by
  refine q X H σ _ o e fun v r H1 k1 a w => ?_
  obtain ⟨x, b, hf, ⟨t, ty, hk⟩, kk⟩ := w
  have o1 := o.keep k1
  have a1 := a.fz o hf
  refine ⟨show 2 ≤ sizeLine by decide, fun p np => ?_⟩
  exact ⟨v, p, [.ty n1, .ty n2], t, [.type n1, .type n2], b, rfl, upd_same, .cons (.ty n1) (.cons (.ty n2) .nil), ty X _ v (a1.mono (up_mo' np)), hk, h _ (.d (.bl b)) _ ((k1.trans (o1.kp.add o1 np))) (At.bl b) kk⟩
/-- len(set(texts)) -/
theorem w_lenSet (q : Wp π ta δ fun r => ∃ ss : List Str, (r.li = some (ss.map D.str) ∨ r = .d (.tup (ss.map D.str))) ∧ ss.length < 4000 ∧ k (.d (.int (nd ss)))) : Wp π (tLenSetS K ta) δ k := fun X H σ Q o e h => by
  refine q X H σ _ o e fun v r H1 k1 a w => ?_
  obtain ⟨ss, hf, hl, kk⟩ := w
  rcases hf with hf | rfl
  · obtain ⟨p, vs, rfl, e1, t⟩ := a.li hf
    have z := ats_strs t
    subst z
    exact ⟨p, ss, rfl, .inl (SqL.of e1), Nat.lt_of_le_of_lt (show ss.length + 1 ≤ 4000 by omega) (by decide), h _ (.d (.int (nd ss))) H1 k1 (At.int _) kk⟩
  · cases a with
    | tup e1 t =>
      have z := ats_strs t
      subst z
      exact ⟨_, ss, rfl, .inr (SqT.of (of_cut e1).2), Nat.lt_of_le_of_lt (show ss.length + 1 ≤ 4000 by omega) (by decide), h _ (.d (.int (nd ss))) H1 k1 (At.int _) kk⟩
/-- a class's constant -/
def CV (K : PySem.W.Frag) (C : Addr) (f : Str) (i : Int) : Prop := ∃ mc u, ClX.CRead K C mc ∧ ClX.CVal K C mc f (.int i) u
theorem w_cval {C : Addr} {f : Str} {i : Int} (c : CV K C f i) (q : k (.d (.int i))) : Wp π (ClX.tCVal K (tC (.ref C)) f) δ k := fun X H σ Q o e h => by
  obtain ⟨mc, u, h1, h2⟩ := c
  exact ⟨C, mc, .int i, u, rfl, h1, h2, h _ (.d (.int i)) H o.kp (At.int i) q⟩
def cutD (xs : List D) (lo hi : Option Int) : List D := (xs.drop (HT.sIx xs.length 0 lo)).take (HT.sIx xs.length xs.length hi - HT.sIx xs.length 0 lo)
theorem cut_ats {H : Hp} {vs : List V} {ds : List D} {lo hi : Option Int} (a : Ats H vs ds) : Ats H (cutV vs lo hi) (cutD ds lo hi) := by
  unfold cutV cutD
  rw [a.length]
  exact (a.drop _).take _
theorem w_slTo (q : Wp π ta δ fun r => ∃ ds, r.li = some ds ∧ Wp π tb δ fun s => ∃ i : Int, s = .d (.int i) ∧ k (.new (.lst (cutD ds none (some i))))) : Wp π (tSl (rSlL K) ta tNoPart (tPart tb)) δ k := fun X H σ Q o e h => by
  refine q X H σ _ o e fun v r H1 k1 a w => ?_
  obtain ⟨ds, hl, w⟩ := w
  have o1 := o.keep k1
  show tPart tb σ H1 fun u H3 => rSlL K v none u H3 Q
  refine w X H1 σ _ o1 (e.keep o k1) fun v2 s H2 k2 a2 w2 => ?_
  obtain ⟨i, rfl, kk⟩ := w2
  cases a2
  obtain ⟨p, vs, rfl, e1, t⟩ := (a.keep o1 k1 o k2).li hl
  exact ⟨i, rfl, p, vs, rfl, SqL.of e1, fun p' np => new_lst (o1.keep k2) (k1.trans k2) o (cut_ats t) (fun v z H' k3 => h v z H' ((k1.trans k2).trans k3)) kk p' np⟩
def zipD (xs ys : List D) : List D := (xs.zip ys).map fun p => .tup [p.1, p.2]
theorem wi_zip {ki : List D → Prop} (q : WpA π t δ fun rs => ∃ xs ys, fzA rs = some [.d (.lst xs), .d (.lst ys)] ∧ ki (zipD xs ys)) : WpI π (iZip K t) δ ki := fun X H σ R o e h => by
  refine q X H σ _ o e fun vs rs H1 k1 a w => ?_
  obtain ⟨xs, ys, hf, kk⟩ := w
  have o1 := o.keep k1
  have a1 := a.fzA o hf
  match vs, a1 with
  | [v1, v2], ⟨b1, b2, _⟩ =>
    have b1 : At (cut X H1) v1 (.lst xs) := b1
    have b2 : At (cut X H1) v2 (.lst ys) := b2
    cases b1 with
    | @lst p ws _ e1 t1 =>
      cases b2 with
      | @lst p2 ws2 _ e2 t2 =>
        refine ⟨p, p2, ws, ws2, rfl, SqL.of (of_cut e1).2, SqL.of (of_cut e2).2, h _ H1 (zipD xs ys) k1 ⟨fun i X' H' f _ hi => ?_, fun i X' H' f _ hi => ?_⟩ kk⟩
        · have l1 : SqL K H' p ws := SqL.of (of_cut (f.mo.one _ _ e1 (fun _ z => by cases z) (fun _ z => by cases z) (fun _ _ z => by cases z))).2
          have l2 : SqL K H' p2 ws2 := SqL.of (of_cut (f.mo.one _ _ e2 (fun _ z => by cases z) (fun _ z => by cases z) (fun _ _ z => by cases z))).2
          unfold zipD at hi
          rw [List.length_map, List.length_zip] at hi
          have hx : i < xs.length := by omega
          have hy : i < ys.length := by omega
          obtain ⟨x, gx, ax⟩ := (t1.mono f.mo).get (List.getElem?_eq_getElem hx)
          obtain ⟨y, gy, ay⟩ := (t2.mono f.mo).get (List.getElem?_eq_getElem hy)
          refine ⟨⟨ws, ws2, x, y, l1, l2, gx, gy⟩, fun v H'' yl ok => ?_⟩
          obtain ⟨T, x', y', rfl, nT, rfl, h1, h2⟩ := yl
          have ex := h1 _ l1
          rw [gx] at ex
          cases ex
          have ey := h2 _ l2
          rw [gy] at ey
          cases ey
          refine ⟨ok.kp.add ok nT, .tup [xs[i], ys[i]], ?_, At.tup (cut_of (fun z => ok.dom T z nT) upd_same) (.cons (ax.mono (up_mo' nT)) (.cons (ay.mono (up_mo' nT)) .nil))⟩
          unfold zipD
          rw [List.getElem?_map, List.getElem?_eq_getElem (by rw [List.length_zip]; omega)]
          simp
        · have l1 : SqL K H' p ws := SqL.of (of_cut (f.mo.one _ _ e1 (fun _ z => by cases z) (fun _ z => by cases z) (fun _ _ z => by cases z))).2
          have l2 : SqL K H' p2 ws2 := SqL.of (of_cut (f.mo.one _ _ e2 (fun _ z => by cases z) (fun _ z => by cases z) (fun _ _ z => by cases z))).2
          unfold zipD at hi
          rw [List.length_map, List.length_zip] at hi
          have g1 := t1.length
          have g2 := t2.length
          exact ⟨ws, ws2, l1, l2, by omega⟩
/-- a display of a dict -/
def RPs (π : Po) (X : Xs) (H0 H : Hp) : List (Rv × Rv) → List (V × V) → Prop
  | [], [] => True
  | (r, s) :: rs, (v, w) :: vs => RAt π X H0 H r v ∧ RAt π X H0 H s w ∧ RPs π X H0 H rs vs
  | _, _ => False
def WpP (π : Po) (trs : List (TE × TE)) (δ : List Rv) (k : List (Rv × Rv) → Prop) : Prop := ∀ (X : Xs) (H : Hp) (σ : L2.St) (Q : List (V × V) → Hp → Prop), Ok π X H → Ev π X H σ δ → (∀ ps rs H', Kp π H H' → RPs π X H H' rs ps → k rs → Q ps H') → tPairs trs σ H Q
theorem RPs.base {X : Xs} {H0 H1 H : Hp} (o0 : Ok π X H0) (k : Kp π H0 H1) : ∀ {rs : List (Rv × Rv)} {vs : List (V × V)}, RPs π X H1 H rs vs → RPs π X H0 H rs vs
  | [], [], _ => trivial
  | _ :: _, _ :: _, ⟨a, b, c⟩ => ⟨a.base o0 k, b.base o0 k, RPs.base o0 k c⟩
  | [], _ :: _, a => a.elim
  | _ :: _, [], a => a.elim
theorem wpp_nil {k : List (Rv × Rv) → Prop} (q : k []) : WpP π [] δ k := fun X H σ Q o e h => h [] [] H o.kp trivial q
theorem wpp_cons {k : List (Rv × Rv) → Prop} {trs : List (TE × TE)} (q : Wp π ta δ fun r => Wp π tb δ fun s => WpP π trs δ fun rs => k ((r, s) :: rs)) : WpP π ((ta, tb) :: trs) δ k := fun X H σ Q o e h => by
  refine q X H σ _ o e fun x a H1 k1 r1 w => ?_
  have o1 := o.keep k1
  have e1 := e.keep o k1
  refine w X H1 σ _ o1 e1 fun y b H2 k2 r2 w2 => ?_
  have o2 := o1.keep k2
  refine w2 X H2 σ _ o2 (e1.keep o1 k2) fun ps rs H3 k3 r3 kr => ?_
  exact h ((x, y) :: ps) ((a, b) :: rs) H3 ((k1.trans k2).trans k3) ⟨(r1.keep o1 k1 o k2).keep o2 (k1.trans k2) o k3, (r2.base o k1).keep o2 (k1.trans k2) o k3, r3.base o (k1.trans k2)⟩ kr
/-- what is put into a dict -/
def pairsD : List (Rv × Rv) → Option (List (Key × D))
  | [] => some []
  | (.d y, s) :: rs => match keyD y, s.fz, pairsD rs with
    | some z, some x, some l => some ((z, x) :: l)
    | _, _, _ => none
  | _ => none
theorem rps_at {X : Xs} {H0 H : Hp} (o0 : Ok π X H0) : ∀ {rs : List (Rv × Rv)} {ps : List (V × V)} {kd : List (Key × D)}, RPs π X H0 H rs ps → pairsD rs = some kd → ∃ kvs : List (Key × V), ps = kvs.map (fun kv => (kV kv.1, kv.2)) ∧ kvs.map (·.1) = kd.map (·.1) ∧ Ats (cut X H) (kvs.map (·.2)) (kd.map (·.2))
  | [], [], _, _, h => by cases h; exact ⟨[], rfl, rfl, .nil⟩
  | [], _ :: _, _, a, _ => a.elim
  | _ :: _, [], _, a, _ => a.elim
  | (r, s) :: rs, (v, w) :: ps, kd, ⟨a, b, c⟩, h => by
    cases r with
    | d y =>
      unfold pairsD at h
      cases hy : keyD y with
      | none => rw [hy] at h; cases h
      | some z =>
        cases hs : s.fz with
        | none => rw [hy, hs] at h; cases h
        | some x =>
          cases hr : pairsD rs with
          | none => rw [hy, hs, hr] at h; cases h
          | some l =>
            rw [hy, hs, hr] at h
            cases h
            obtain ⟨kvs, e1, e2, e3⟩ := rps_at o0 c hr
            exact ⟨(z, w) :: kvs, by rw [keyD_at a hy, e1]; rfl, by rw [List.map_cons, List.map_cons, e2], .cons (b.fz o0 hs) e3⟩
    | _ => cases h
theorem w_disp {trs : List (TE × TE)} (hl : trs.length ≤ 15) (q : WpP π trs δ fun rs => ∃ kd, pairsD rs = some kd ∧ kd.length ≤ 15 ∧ k (.new (.dct (mergeD [] kd)))) : Wp π (tDisp trs) δ k := fun X H σ Q o e h p np => by
  have nX : ¬ X p := fun z => o.dom p z np
  have npp : π ≠ some p := fun z => nX (o.pot p z).1
  have k1 : Kp π H (L2.upd H p (.dK [])) := o.kp.add o np
  have o1 : Ok π (plus X p) (L2.upd H p (.dK [])) := ⟨fun a z => z.elim ((o.keep k1).dom a) fun z => by rw [z, upd_same]; exact fun z => (by cases z), fun q e => ⟨.inl (o.pot q e).1, k1.pot q e⟩⟩
  have e1 : Ev π (plus X p) (L2.upd H p (.dK [])) σ δ := ⟨e.len, fun j s o' h1 h2 => (e.at_ j s o' h1 h2).part o k1 np, e.nd⟩
  refine q (plus X p) _ σ _ o1 e1 fun ps rs H2 k2 r2 w => ?_
  obtain ⟨kd, hk, hz, kk⟩ := w
  have hp2 := k2.keep p _ npp upd_same
  obtain ⟨kvs, e2, e3, e4⟩ := rps_at o1 r2 hk
  have hlen : kvs.length = kd.length := by simpa using congrArg List.length e3
  refine ⟨hp2, kvs, e2, by omega, ?_⟩
  obtain ⟨m1, m2⟩ := merge_at e3 e4 (av := []) (ad := []) rfl .nil
  have mo5 : Mo (cut (plus X p) H2) (cut (plus X p) (L2.upd H2 p (.dK (mergeK [] kvs)))) := cut_keep (fun a u n e => by rw [upd_ne (fun z => n (.inr z))]; exact e) fun _ _ n _ => n
  refine h (.ref p) (.new (.dct (mergeD [] kd))) _ ⟨fun a u n e => ?_, fun q e => ?_⟩ ⟨p, rfl, np, mergeK [] kvs, upd_same, m1, m2.mono mo5⟩ kk
  · rw [upd_ne (ne_of_none e np)]
    exact (k1.trans k2).keep a u n e
  · obtain ⟨a, b, h', g⟩ := k2.pot q e
    exact ⟨a, b, by rw [upd_ne (fun z => npp (by rw [e, z]))]; exact h', g⟩
end
end Dt
namespace Ly
open PySem PySem.Spec PyProof.Rows L2
def lowB (c : Nat) : Bool := decide (97 ≤ c) && decide (c ≤ 122)
def uppB (c : Nat) : Bool := decide (65 ≤ c) && decide (c ≤ 90)
theorem sg_alpha : ∀ c : Fin 128, Unicode.isAlpha c.val = (lowB c.val || uppB c.val) := by decide +kernel
theorem sg_lower : ∀ c : Fin 128, Unicode.isLower c.val = lowB c.val := by decide +kernel
theorem sg_upper : ∀ c : Fin 128, (Unicode.isUpper c.val || Unicode.isTitle c.val) = uppB c.val := by decide +kernel
theorem tx_ascii (x : Str) : Txt.isascii x = x.cps.toList.all (fun c => decide (c < 128)) := by
  unfold Txt.isascii
  rw [← Array.all_toList]
theorem tx_alpha (x : Str) : Txt.isalpha x = (decide (x.length > 0) && x.cps.toList.all Unicode.isAlpha) := by
  unfold Txt.isalpha
  rw [← Array.all_toList]
theorem tx_lower (x : Str) : Txt.islower x = (x.cps.toList.any Unicode.isLower && !x.cps.toList.any (fun c => Unicode.isUpper c || Unicode.isTitle c)) := by
  unfold Txt.islower
  rw [← Array.any_toList, ← Array.any_toList]
theorem str_len (x : Str) : x.length = x.cps.toList.length := (Array.length_toList ..).symm
theorem low_upp {c : Nat} (h : lowB c = true) : uppB c = false := by
  unfold lowB at h
  unfold uppB
  rw [Bool.and_eq_true, decide_eq_true_eq, decide_eq_true_eq] at h
  rw [decide_eq_false (show ¬ c ≤ 90 by omega), Bool.and_false]
theorem name_signs (x : Str) : (Txt.isascii x && (Txt.isalpha x && Txt.islower x)) = (decide (1 ≤ x.length) && x.cps.toList.all lowB) := by
  rw [tx_ascii, tx_alpha, tx_lower, str_len]
  cases he : x.cps.toList with
  | nil => rfl
  | cons c0 cs =>
    rw [show decide ((c0 :: cs).length > 0) = true from decide_eq_true (Nat.succ_pos _), show decide (1 ≤ (c0 :: cs).length) = true from decide_eq_true (Nat.succ_pos _), Bool.true_and, Bool.true_and]
    by_cases h : (c0 :: cs).all lowB = true
    · rw [h]
      have hm := List.all_eq_true.mp h
      have lt : ∀ c ∈ c0 :: cs, c < 128 := fun c m => by
        have z := hm c m
        unfold lowB at z
        rw [Bool.and_eq_true, decide_eq_true_eq, decide_eq_true_eq] at z
        omega
      have e1 : (c0 :: cs).all (fun c => decide (c < 128)) = true := List.all_eq_true.mpr fun c m => decide_eq_true (lt c m)
      have e2 : (c0 :: cs).all Unicode.isAlpha = true := List.all_eq_true.mpr fun c m => by
        rw [sg_alpha ⟨c, lt c m⟩, hm c m]
        rfl
      have e3 : (c0 :: cs).any Unicode.isLower = true := List.any_eq_true.mpr ⟨c0, List.mem_cons_self, by
        rw [sg_lower ⟨c0, lt c0 List.mem_cons_self⟩]
        exact hm c0 List.mem_cons_self⟩
      have e4 : (c0 :: cs).any (fun c => Unicode.isUpper c || Unicode.isTitle c) = false := by
        rw [Bool.eq_false_iff]
        intro z
        obtain ⟨c, m, hc⟩ := List.any_eq_true.mp z
        rw [sg_upper ⟨c, lt c m⟩, low_upp (hm c m)] at hc
        cases hc
      rw [e1, e2, e3, e4]
      rfl
    · rw [Bool.eq_false_iff.mpr h]
      rw [Bool.eq_false_iff]
      intro z
      rw [Bool.and_eq_true, Bool.and_eq_true, Bool.and_eq_true] at z
      obtain ⟨z1, z2, z3, z4⟩ := z
      refine h (List.all_eq_true.mpr fun c m => ?_)
      have l : c < 128 := by simpa using List.all_eq_true.mp z1 c m
      have a := List.all_eq_true.mp z2 c m
      rw [sg_alpha ⟨c, l⟩] at a
      have u : uppB c = false := by
        rw [Bool.eq_false_iff]
        intro q
        have : (c0 :: cs).any (fun c => Unicode.isUpper c || Unicode.isTitle c) = true := List.any_eq_true.mpr ⟨c, m, by
          rw [sg_upper ⟨c, l⟩]
          exact q⟩
        rw [this] at z4
        cases z4
      rw [u, Bool.or_false] at a
      exact a
section
variable {K : PySem.W.Frag} {σ : L2.St} {H : Hp} {Q : VK} {x : Str} {n : Nat}
theorem i_sgn {g : Str → Bool} (h : σ[n]? = some (some (.str x))) (q : Q (.bl (g x)) H) : tBM0 K "str" (fun x xs H Q => ∃ a, x = V.str a ∧ xs = [] ∧ True ∧ Q (V.bl (g a)) H) (tVar n) σ H Q :=
  ⟨.str x, h, rfl, x, rfl, rfl, trivial, q⟩
/-- isascii and isalpha and islower of a name -/
theorem i_name (h : σ[n]? = some (some (.str x))) (q : Q (.bl (decide (1 ≤ x.length) && x.cps.toList.all lowB)) H) :
    tAndV (tBM0 K "str" (fun x xs H Q => ∃ a, x = V.str a ∧ xs = [] ∧ True ∧ Q (V.bl (Txt.isascii a)) H) (tVar n))
      (tAndV (tBM0 K "str" (fun x xs H Q => ∃ a, x = V.str a ∧ xs = [] ∧ True ∧ Q (V.bl (Txt.isalpha a)) H) (tVar n))
        (tBM0 K "str" (fun x xs H Q => ∃ a, x = V.str a ∧ xs = [] ∧ True ∧ Q (V.bl (Txt.islower a)) H) (tVar n))) σ H Q := by
  rw [← name_signs] at q
  refine i_andV ?_
  refine i_sgn h ⟨_, rfl, ?_⟩
  cases h1 : Txt.isascii x with
  | false =>
    rw [h1] at q
    exact q
  | true =>
    rw [h1] at q
    rw [if_pos rfl]
    refine i_andV ?_
    refine i_sgn h ⟨_, rfl, ?_⟩
    cases h2 : Txt.isalpha x with
    | false =>
      rw [h2] at q
      exact q
    | true =>
      rw [h2] at q
      rw [if_pos rfl]
      exact i_sgn h q
end
end Ly
namespace Dt
open PySem PySem.Spec PyProof.Rows L2 Ly
section
variable {X : Cx} {K : PySem.W.Frag} {e : Expr} {f : Str} {pos : Pos} {ta te : TE}
theorem room_u1 {k : Nat} {A : Around} (r : Room k A) : A.units + 1 < cLine := by have := r.un; omega
theorem pe_cvalK (hK : X.K = K) (he : PE X e ta) (hb : attributeBase e f X.env (eval e X.env) = eval e X.env) : PE X (.Attribute e f pos) (ClX.tCVal K ta f) := by
  subst hK
  exact ClX.pe_cval he hb
theorem pe_lenSetK {a : Expr} {p p2 q pos : Pos} (hK : X.K = K) (hc : X.calm = true) (hg : Gl X "len") (hm : X.mg "len" = none) (hg2 : Gl X "set") (hm2 : X.mg "set" = none) (ha : PE X a ta) (na : starEach [a] X.env = (false, eval a X.env) :: starEach [] X.env := by rfl) :
    PE X (.Call (.Name "len" p) [.Call (.Name "set" p2) [a] [] q] [] pos) (tLenSetS K ta) := by
  subst hK
  exact pe_lenSetS hc hg hm hg2 hm2 ha na
theorem pi_zipK {e e2 : Expr} {ta : TA} {p pos tpos : Pos} {elts : List Expr} {kk : Nat} (hK : X.K = K) (hg : Gl X "zip") (hm : X.mg "zip" = none) (ha : PA X [e, e2] ta)
    (hs : starEach [e, e2] X.env = (false, eval e X.env) :: starEach [e2] X.env := by rfl) (hpl : (backTo pos (starEach [e2] X.env)).any (·.1) = false := by rfl) :
    PI X (.Tuple elts kk tpos) (.Call (.Name "zip" p) [e, e2] [] pos) (iZip K ta) := by
  subst hK
  exact pi_zip hg hm ha hs hpl
theorem ps_lockA {st : Stmt} {i : Nat} (h : PS X st (tAsg te (gName i))) : PS X st (tAsg (tLockO te) (gName i)) := ps_lockO h
end
section
variable {π : Po} {δ : List Rv} {k : Rv → Prop} {K : PySem.W.Frag} {n : Nat}
theorem w_name {x : Str} (h : δ[n]? = some (.d (.str x))) (q : k (.d (.bl (decide (1 ≤ x.length) && x.cps.toList.all lowB)))) :
    Wp π (tAndV (tBM0 K "str" (fun x xs H Q => ∃ a, x = V.str a ∧ xs = [] ∧ True ∧ Q (V.bl (Txt.isascii a)) H) (tVar n))
      (tAndV (tBM0 K "str" (fun x xs H Q => ∃ a, x = V.str a ∧ xs = [] ∧ True ∧ Q (V.bl (Txt.isalpha a)) H) (tVar n))
        (tBM0 K "str" (fun x xs H Q => ∃ a, x = V.str a ∧ xs = [] ∧ True ∧ Q (V.bl (Txt.islower a)) H) (tVar n)))) δ k := fun X H σ Q o e hq => by
  obtain ⟨v, e1, a⟩ := e.get h (fun z => by cases z)
  cases a
  exact i_name e1 (hq _ (.d (.bl _)) H o.kp (At.bl _) q)
theorem body_or {W : Wd} {k : Nat} {N : List Str} {qual : Str} {st : Stmt} {pt : Bool} {B B1 B2 : List Rv → (Rv → Prop) → Prop} (h : ∀ rs k, B rs k → B1 rs k ∨ B2 rs k) (h1 : BodyOk W k N qual st (spW pt B1)) (h2 : BodyOk W k N qual st (spW pt B2)) : BodyOk W k N qual st (spW pt B) := fun f cdv A outer s H vs Q E hr hsp => by
  obtain ⟨π, X, rs, kk, hp, ok, ha, at_, b, q⟩ := hsp
  rcases h rs kk b with b | b
  · exact h1 f cdv A outer s H vs Q E hr ⟨π, X, rs, kk, hp, ok, ha, at_, b, q⟩
  · exact h2 f cdv A outer s H vs Q E hr ⟨π, X, rs, kk, hp, ok, ha, at_, b, q⟩
theorem w_chain {ta tb tc : TE} {r r' : R2} (q : Wp π ta δ fun a => Wp π tb δ fun b => WOp π r a b fun z => ∃ c, z = .d (.bl c) ∧ if c = true then Wp π tc δ fun e => WOp π r' b e k else k (.d (.bl false))) : Wp π (tChain r r' ta tb tc) δ k := fun X H σ Q o e h => by
  refine q X H σ _ o e fun x a H1 k1 r1 wb => ?_
  have o1 := o.keep k1
  have e1 := e.keep o k1
  refine wb X H1 σ _ o1 e1 fun y b H2 k2 r2 w => ?_
  have o2 := o1.keep k2
  have e2 := e1.keep o1 k2
  have k02 := k1.trans k2
  have rb := r2.base o k1
  refine w X H H2 x y _ o o2 k02 (r1.keep o1 k1 o k2) rb fun z zr H3 k3 r3 w3 => ?_
  obtain ⟨c, rfl, w3⟩ := w3
  cases r3
  have o3 := o2.keep k3
  refine ⟨c, rfl, ?_⟩
  split at w3
  · rw [if_pos ‹_›]
    refine w3 X H3 σ _ o3 (e2.keep o2 k3) fun v er H4 k4 r4 w4 => ?_
    have k04 := (k02.trans k3).trans k4
    exact w4 X H H4 y v Q o (o3.keep k4) k04 (rb.keep o2 k02 o (k3.trans k4)) (r4.base o (k02.trans k3)) fun u ur H5 k5 r5 kz => h u ur H5 (k04.trans k5) r5 kz
  · rw [if_neg ‹_›]
    exact h (.bl false) (.d (.bl false)) H3 (k02.trans k3) (At.bl false) w3
theorem lck_F {tt : TT} {te : TE} {vs : List Nat} {j : Nat} {ds : List D} (hj : j ∈ vs) (P : D → Bool) (f : D → D) (hl : ds.length ≤ 4000) (test : ∀ d, d ∈ ds → WpT π tt ((wipeD δ vs).set j (.d d)) fun b => b = P d)
    (turn : ∀ d, d ∈ ds → P d = true → Wp π te ((wipeD δ vs).set j (.d d)) fun r => r.fz = some (f d)) (fin : k (.new (.lst ((ds.filter P).map f)))) : LcK π (gName j) tt te vs k δ ds := by
  refine ⟨fun i acc => acc = ((ds.take i).filter P).map f, rfl, fun i d acc hd hI => ?_, fun acc hI => by rw [hI, List.take_length]; exact fin⟩
  have hm := List.mem_of_getElem? hd
  have ht : ds.take (i + 1) = ds.take i ++ [d] := by rw [List.take_add_one, hd]; rfl
  have hlen : acc.length ≤ i := by
    rw [hI, List.length_map]
    exact Nat.le_trans (List.length_filter_le _ _) (by rw [List.length_take]; omega)
  have hlt := (List.getElem?_eq_some_iff.mp hd).1
  refine we_name ((test d hm).imp fun b hb => ?_)
  subst hb
  refine ite_b (fun hp => ?_) fun hp => ?_
  · refine (turn d hm hp).imp fun r hr => ⟨f d, hr, by omega, ?_⟩
    show acc ++ [f d] = ((ds.take (i + 1)).filter P).map f
    rw [ht, List.filter_append, List.map_append, ← hI, List.filter_cons, if_pos hp]
    rfl
  · show acc = ((ds.take (i + 1)).filter P).map f
    rw [ht, List.filter_append, List.map_append, ← hI, List.filter_cons, if_neg (by rw [hp]; exact Bool.false_ne_true)]
    simp
theorem lck_M {te : TE} {vs : List Nat} {j : Nat} {ds : List D} (hj : j ∈ vs) (f : D → D) (hl : ds.length ≤ 4000)
    (turn : ∀ d, d ∈ ds → Wp π te ((wipeD δ vs).set j (.d d)) fun r => r.fz = some (f d)) (fin : k (.new (.lst (ds.map f)))) : LcK π (gName j) tYes te vs k δ ds :=
  lck_F hj (fun _ => true) f hl (fun d _ => wt_yes rfl) (fun d hd _ => turn d hd) (by rw [List.filter_eq_self.mpr (fun _ _ => rfl)]; exact fin)
/-- over a dict's keys -/
theorem w_lcK {te : TE} {td : TE} {vs : List Nat} {j : Nat} {kd : List (Key × D)} (hj : j ∈ vs) (f : D → D) (s : Std π td δ (.dct kd)) (hl : kd.length ≤ 4000)
    (turn : ∀ d, d ∈ (kd.map fun p => dKey p.1) → Wp π te ((wipeD δ vs).set j (.d d)) fun r => r.fz = some (f d)) (fin : k (.new (.lst ((kd.map fun p => dKey p.1).map f)))) : Wp π (tLockO (tLc (iKeys td) (gName j) tYes te vs)) δ k :=
  w_lcD dit_keys (gn_name hj) s (lck_M hj f (by rw [List.length_map]; exact hl) turn fin)
theorem w_lcKF {tt : TT} {te : TE} {td : TE} {vs : List Nat} {j : Nat} {kd : List (Key × D)} (hj : j ∈ vs) (P : D → Bool) (f : D → D) (s : Std π td δ (.dct kd)) (hl : kd.length ≤ 4000) (test : ∀ d, d ∈ (kd.map fun p => dKey p.1) → WpT π tt ((wipeD δ vs).set j (.d d)) fun b => b = P d)
    (turn : ∀ d, d ∈ (kd.map fun p => dKey p.1) → P d = true → Wp π te ((wipeD δ vs).set j (.d d)) fun r => r.fz = some (f d)) (fin : k (.new (.lst (((kd.map fun p => dKey p.1).filter P).map f)))) : Wp π (tLockO (tLc (iKeys td) (gName j) tt te vs)) δ k :=
  w_lcD dit_keys (gn_name hj) s (lck_F hj P f (by rw [List.length_map]; exact hl) test turn fin)
/-- the names that a list, a tuple or a dict holds -/
inductive NamesOf : D → List Str → Prop
  | lst (ss : List Str) : NamesOf (.lst (ss.map D.str)) ss
  | tup (ss : List Str) : NamesOf (.tup (ss.map D.str)) ss
  | dct {kd : List (Key × D)} {ss : List Str} (h : kd.map (·.1) = ss.map Sum.inr) : NamesOf (.dct kd) ss
theorem keys_str {kd : List (Key × D)} {ss : List Str} (h : kd.map (·.1) = ss.map Sum.inr) : (kd.map fun p => dKey p.1) = ss.map D.str := by
  have e : (kd.map fun p => dKey p.1) = (kd.map (·.1)).map dKey := by rw [List.map_map]; rfl
  rw [e, h, List.map_map]
  rfl
theorem keys_len {kd : List (Key × D)} {ss : List Str} (h : kd.map (·.1) = ss.map Sum.inr) : kd.length = ss.length := by simpa using congrArg List.length h
theorem ite_dn {p A B : Prop} [Decidable p] (h1 : ¬ p → A) (h2 : p → B) : if (!decide p) = true then A else B := by
  by_cases h : p
  · rw [decide_eq_true h]; exact ite_f (A := A) (h2 h)
  · rw [decide_eq_false h]; exact ite_t (B := B) (h1 h)
/-- a name's signs -/
def nmB (x : Str) : Bool := decide (x.length ≤ 8) && (decide (1 ≤ x.length) && x.cps.toList.all lowB)
def isInt : D → Bool
  | .int _ => true
  | _ => false
end
end Dt
namespace Lw
open PySem PySem.Spec PyProof.Rows L2 Ly Dt
local macro_rules | `(tactic| walk_at "wk") => `(tactic| first
  | ((with_reducible refine' w_var ?hv ?hn ?_); (case hv => exact rfl); (case hn => (intro z; cases z)))
  | with_reducible refine w_int ?_
  | with_reducible refine w_str ?_
  | with_reducible refine w_op ?_
  | with_reducible refine wa_cons ?_
  | with_reducible refine wa_nil ?_
  | with_reducible refine w_reprL ?_
  | with_reducible refine w_isi2 ?_
  | with_reducible refine w_cb ?_
  | with_reducible refine w_call ?_
  | ((with_reducible refine' ws_retV ?hv ?_); (case hv => exact rfl))
  | with_reducible refine ws_seq ?_
  | with_reducible refine ws_asg ?_
  | with_reducible refine ws_ret ?_
  | with_reducible refine ws_if ?_
  | with_reducible refine ws_next ?_
  | ((with_reducible refine' ws_append ?hv ?hz ?_); (case hv => exact rfl); rotate_left)
  | with_reducible refine ws_drop ?_
  | with_reducible refine ws_retN ?_
  | ((with_reducible refine wg_d ?_); dsimp only [List.set])
  | ((with_reducible refine wg_raw ?_); dsimp only [List.set])
  | ((with_reducible refine wg_E ?_))
  | ((with_reducible refine' we_tup ?hl ?_); (case hl => exact rfl))
  | with_reducible refine wes_cons ?_
  | with_reducible refine wes_nil ?_
  | ((with_reducible refine we_name ?_); dsimp only [List.set])
  | with_reducible refine out_d ?_
  | with_reducible refine out_new ?_
  | with_reducible refine ex_bl ?_
  | with_reducible refine ite_t ?_
  | ((with_reducible refine ex_fzd ?_); dsimp only [List.set, List.nil_append, List.cons_append])
  | ((with_reducible refine ex_fzn ?_); dsimp only [List.set, List.nil_append, List.cons_append])
  | with_reducible refine ite_nt ?_
  | with_reducible refine ite_nf ?_
  | with_reducible refine ite_f ?_
  | with_reducible refine wt_tb ?_
  | with_reducible refine wt_test ?_
  | with_reducible refine wt_and ?_
  | with_reducible refine wt_or ?_
  | with_reducible refine wt_not ?_
  | with_reducible refine w_andV ?_
  | with_reducible refine w_orV ?_
  | with_reducible refine w_notV ?_
  | with_reducible refine w_if ?_
  | with_reducible refine w_bl ?_
  | with_reducible refine w_non ?_
  | with_reducible refine w_ty ?_
  | with_reducible refine w_ref ?_
  | with_reducible refine w_un ?_
  | ((with_reducible refine w_tup ?_); skip)
  | ((with_reducible refine w_lst ?_); skip)
  | ((with_reducible refine' Exists.intro _ (And.intro ?hf (And.intro ?hl ?_))); (case hf => exact rfl); (case hl => exact Nat.le_of_ble_eq_true rfl))
  | with_reducible refine w_fld ?_
  | ((with_reducible refine' fld_of ?ho ?c ?n ?l ?_); (case ho => exact rfl); (case c => assumption); (case n => with_reducible assumption); (case l => exact rfl))
  | with_reducible refine wp_top ?_
  | with_reducible refine wp_bot ?_
  | with_reducible refine w_prop ?_
  | with_reducible refine w_meth ?_
  | with_reducible refine w_smeth ?_
  | with_reducible refine wop_addI ?_
  | with_reducible refine wop_subI ?_
  | ((with_reducible refine' wop_mulI ?c ?_); rotate_left)
  | ((with_reducible refine' wop_fdI ?c ?_); rotate_left)
  | with_reducible refine wop_mdI (by first | decide | assumption) ?_
  | ((with_reducible refine' wop_mdI ?c ?_); rotate_left)
  | ((with_reducible refine' wop_I0 ?e ?_); (case e => exact rfl))
  | ((with_reducible refine' wop_ixT ?e ?_); (case e => exact rfl))
  | ((with_reducible refine' wcb_lenL ?e ?_); (case e => exact rfl))
  | with_reducible refine wcb_lenT ?_
  | ((with_reducible refine' wop_fdX ?c ?_); rotate_left)
  | ((with_reducible refine' wun_U ?e ?_); (case e => exact rfl))
  | with_reducible refine wop_eqI ?_
  | with_reducible refine wop_neI ?_
  | with_reducible refine wop_eqS ?_
  | with_reducible refine wop_neS ?_
  | with_reducible refine wop_isN ?_
  | with_reducible refine wop_notN ?_
  | ((with_reducible refine' wop_inS ?e ?_); (case e => exact rfl))
  | ((with_reducible refine' wop_niS ?e ?_); (case e => exact rfl))
  | with_reducible refine wop_inST ?_
  | with_reducible refine wcb_gcd ?_
  | with_reducible refine wcb_abs ?_
  | with_reducible refine wcb_max2 ?_
  | with_reducible refine wcb_min2 ?_
  | with_reducible refine wcb_int ?_
  | ((with_reducible refine' wcb_isi (b := true) ?ho ?hb ?_); (case ho => exact rfl); (case hb => (dsimp only [tyN]; decide +kernel)))
  | ((with_reducible refine' wcb_isi (b := false) ?ho ?hb ?_); (case ho => exact rfl); (case hb => (dsimp only [tyN]; decide +kernel)))
  | ((with_reducible refine' wcb_listOf ?e ?_); (case e => exact rfl))
  | with_reducible refine wcb_listOfT ?_
  | ((with_reducible refine' wcb_tupOf ?e ?_); (case e => exact rfl))
  | with_reducible refine w_chain ?_
  | with_reducible refine wcb_strS ?_
  | ((with_reducible refine' wcb_lenD ?e ?_); (case e => exact rfl))
  | ((with_reducible refine' wcb_listD ?e ?_); (case e => exact rfl))
  | with_reducible refine w_dnewK ?_
  | with_reducible refine w_dget ?_
  | with_reducible refine w_din ?_
  | with_reducible refine w_dni ?_
  | with_reducible refine w_lenSet ?_
  | with_reducible refine w_listVals ?_
  | with_reducible refine w_chain ?_
  | ((with_reducible refine' wt_yes ?_)))
variable {W : Wd} {a : Ad}
def bKind (f : D → Bool) (rs : List Rv) (k : Rv → Prop) : Prop := ∃ x, rs = [.d x] ∧ isObj x = false ∧ k (.d (.bl (f x)))
theorem wcb_kind {π : Po} {k : Rv → Prop} {E : XK} {f : D → Bool} {x : D} (ho : isObj x = false) (q : k (.d (.bl (f x)))) : WCb π (fun vs H Q => spW false (bKind f) vs H Q E) [.d x] k := wcb_W0 (rs := [.d x]) rfl rfl ⟨x, rfl, ho, fun z => (by cases z), q⟩
theorem k_is_integer (T : Txt W.K W.mg a) : Cl W 1 "is_integer" (spW false (bKind isInt)) := by
  refine cl_W T.d_is_integer sc_is_integer bd_is_integer (fun rs k ⟨_, h, _⟩ => by rw [h]; rfl) (body_W (n := 1) (m := 0) rfl (fun rs k ⟨_, h, _⟩ => by rw [h]; rfl) fun f cdv A outer s H E hr => ⟨_, (pss_one (ps_ret (pe_and (pe_callB (r := rIsi W.K) call_isi (by rfl) T.b_isinstance (by decide +kernel) (pa_cons (pv 0) (pa_cons (pe_bltn (by rfl) T.b_int (by decide +kernel) (v := .ty "int") rfl) pa_nil))) (pe_one (pe_not (pe_callB (r := rIsi W.K) call_isi (by rfl) T.b_isinstance (by decide +kernel) (pa_cons (pv 0) (pa_cons (pe_bltn (by rfl) T.b_bool (by decide +kernel) (v := .ty "bool") rfl) pa_nil)))))))), fun π rs kr hp hB => ?_⟩)
  obtain ⟨x, rfl, ho, q⟩ := hB
  dsimp only [uns, List.replicate, List.cons_append, List.nil_append]
  cases x <;> first
    | (cases ho; done)
    | ((repeat walk_at "wk"); exact q)
def isCnt : D → Bool
  | .int i => decide (0 ≤ i)
  | _ => false
theorem k_is_count (T : Txt W.K W.mg a) : Cl W 2 "is_count" (spW false (bKind isCnt)) := by
  refine cl_W T.d_is_count sc_is_count bd_is_count (fun rs k ⟨_, h, _⟩ => by rw [h]; rfl) (body_W (n := 1) (m := 0) rfl (fun rs k ⟨_, h, _⟩ => by rw [h]; rfl) fun f cdv A outer s H E hr => ⟨_, (pss_one (ps_ret (pe_and (pe_cl (k_is_integer T) hr (by decide) rfl (pa_cons (pv 0) pa_nil)) (pe_one (pe_cmpR op_ge (pv 0) pe_int (nomark _)))))), fun π rs kr hp hB => ?_⟩)
  obtain ⟨x, rfl, ho, q⟩ := hB
  dsimp only [uns, List.replicate, List.cons_append, List.nil_append]
  repeat walk_at "wk"
  refine wcb_kind ho ?_
  cases x <;> first
    | (cases ho; done)
    | (dsimp only [Dt.isInt]; (repeat walk_at "wk"); exact q)
theorem k_is_name (T : Txt W.K W.mg a) : Cl W 1 "is_name" (spW false fun rs k => ∃ x, rs = [.d (.str x)] ∧ x.length ≤ sizeLine ∧ k (.d (.bl (nmB x)))) := by
  refine cl_W T.d_is_name sc_is_name bd_is_name (fun rs k ⟨_, h, _⟩ => by rw [h]; rfl) (body_W (n := 1) (m := 0) rfl (fun rs k ⟨_, h, _⟩ => by rw [h]; rfl) fun f cdv A outer s H E hr => ⟨_, (pss_one (ps_ret (pe_and (pe_callB (r := rIsi W.K) call_isi (by rfl) T.b_isinstance (by decide +kernel) (pa_cons (pv 0) (pa_cons (pe_bltn (by rfl) T.b_str (by decide +kernel) (v := .ty "str") rfl) pa_nil))) (pe_and (pe_cmpR op_le (pe_callB (r := Ly.rLen W.K) call_lenU (by rfl) T.b_len (by decide +kernel) (pa_cons (pv 0) pa_nil)) pe_int (nomark _)) (pe_and (pe_bm0 PySem.F.plainAttrs_str PySem.F.slot_str_isascii PySem.F.type_str_isascii mt_isascii (pv 0)) (pe_and (pe_bm0 PySem.F.plainAttrs_str PySem.F.slot_str_isalpha PySem.F.type_str_isalpha mt_isalpha (pv 0)) (pe_one (pe_bm0 PySem.F.plainAttrs_str PySem.F.slot_str_islower PySem.F.type_str_islower mt_islower (pv 0))))))))), fun π rs kr hp hB => ?_⟩)
  obtain ⟨x, rfl, hl, q⟩ := hB
  dsimp only [uns, List.replicate, List.cons_append, List.nil_append]
  repeat walk_at "wk"
  refine wcb_lenS hl ?_
  repeat walk_at "wk"
  unfold nmB at q
  refine ite_d (fun h => ?_) fun h => ?_
  · refine w_name rfl (out_d ?_)
    rw [decide_eq_true (show x.length ≤ 8 by omega)] at q
    exact q
  · rw [decide_eq_false (show ¬ x.length ≤ 8 by omega)] at q
    exact out_d q
theorem k_is_amount (T : Txt W.K W.mg a) : Cl W 3 "is_amount" (spW false fun rs k => ∃ d q, rs = [.d d] ∧ NumQ a.Ratio d q ∧ k (.d (.bl (decide (0 ≤ q.num))))) := by
  refine cl_W T.d_is_amount sc_is_amount bd_is_amount (fun rs k ⟨_, _, h, _⟩ => by rw [h]; rfl) (body_W (n := 1) (m := 0) rfl (fun rs k ⟨_, _, h, _⟩ => by rw [h]; rfl) fun f cdv A outer s H E hr => ⟨_, (pss_cons (ps_if (pt_val (pe_callB (r := rIsi W.K) call_isi (by rfl) T.b_isinstance (by decide +kernel) (pa_cons (pv 0) (pa_cons (pe_gn (v := .ref a.Ratio) (by rfl) T.o_Ratio.mg rfl) pa_nil)))) (pss_one (ps_ret (pe_cmpR op_ge (pe_fldK (K := W.K) rfl (pv 0) rfl) pe_int (nomark _)))) pss_nil) (pss_one (ps_ret (pe_cl (k_is_count T) hr (by decide) rfl (pa_cons (pv 0) pa_nil))))), fun π rs kr hp hB => ?_⟩)
  obtain ⟨d, p, rfl, n, q⟩ := hB
  dsimp only [uns, List.replicate, List.cons_append, List.nil_append]
  have cR := T.o_Ratio.cls
  have nT := T.n_Ratio_top
  cases n with
  | int i =>
    repeat walk_at "wk"
    refine wcb_isiC rfl T.o_Ratio.kI ?_
    repeat walk_at "wk"
    refine wcb_kind rfl ?_
    dsimp only [isCnt]
    repeat walk_at "wk"
    exact q
  | rat p =>
    repeat walk_at "wk"
    refine wcb_isiO T.o_Ratio ?_
    repeat walk_at "wk"
    exact q
theorem k_is_speed (T : Txt W.K W.mg a) : Cl W 2 "is_speed" (spW false fun rs k => ∃ i : Int, rs = [.d (.int i)] ∧ k (.d (.bl (decide (1 ≤ i) && decide (i ≤ 1000))))) := by
  refine cl_W T.d_is_speed sc_is_speed bd_is_speed (fun rs k ⟨_, h, _⟩ => by rw [h]; rfl) (body_W (n := 1) (m := 0) rfl (fun rs k ⟨_, h, _⟩ => by rw [h]; rfl) fun f cdv A outer s H E hr => ⟨_, (pss_one (ps_ret (pe_and (pe_cl (k_is_integer T) hr (by decide) rfl (pa_cons (pv 0) pa_nil)) (pe_one (pe_chain op_le op_le pe_int (pv 0) (pe_cvalK (K := W.K) rfl (pe_gn (v := .ref a.Yard) (by rfl) T.o_Yard.mg rfl) rfl)))))), fun π rs kr hp hB => ?_⟩)
  obtain ⟨i, rfl, q⟩ := hB
  dsimp only [uns, List.replicate, List.cons_append, List.nil_append]
  repeat walk_at "wk"
  refine wcb_kind rfl ?_
  dsimp only [Dt.isInt]
  repeat walk_at "wk"
  refine ite_d (fun h => ?_) fun h => ?_
  · rw [decide_eq_true h] at q
    refine w_cval T.c_speed ?_
    repeat walk_at "wk"
    exact q
  · rw [decide_eq_false h] at q
    exact out_d q
end Lw
namespace Dt
open PySem PySem.Spec PyProof.Rows L2 Ly
/-- not b below a -/
theorem le_tot : ∀ a b : List Nat, ltCps b a = false ∨ ltCps a b = false
  | [], [] => .inl rfl
  | [], _ :: _ => .inl rfl
  | _ :: _, [] => .inr rfl
  | a :: r, b :: t => by
    rcases Nat.lt_trichotomy a b with h | h | h
    · left
      simp [ltCps]
      omega
    · subst h
      rcases le_tot r t with h | h
      · left; simp [ltCps, h]
      · right; simp [ltCps, h]
    · right
      simp [ltCps]
      omega
theorem le_anti : ∀ {a b : List Nat}, ltCps b a = false → ltCps a b = false → a = b
  | [], [], _, _ => rfl
  | [], _ :: _, _, h => by simp [ltCps] at h
  | _ :: _, [], h, _ => by simp [ltCps] at h
  | a :: r, b :: t, h, g => by
    simp only [ltCps, Bool.or_eq_false_iff, decide_eq_false_iff_not, Bool.and_eq_false_iff, beq_eq_false_iff_ne] at h g
    have e : a = b := by omega
    subst e
    rw [le_anti (h.2.resolve_left fun z => z rfl) (g.2.resolve_left fun z => z rfl)]
theorem le_tr : ∀ {a b c : List Nat}, ltCps b a = false → ltCps c b = false → ltCps c a = false
  | [], _, [], _, _ => rfl
  | [], _, _ :: _, _, _ => rfl
  | _ :: _, [], _, h, _ => by simp [ltCps] at h
  | _ :: _, _ :: _, [], _, h => by simp [ltCps] at h
  | a :: r, b :: t, c :: u, h, g => by
    simp only [ltCps, Bool.or_eq_false_iff, decide_eq_false_iff_not, Bool.and_eq_false_iff, beq_eq_false_iff_ne] at h g ⊢
    refine ⟨by omega, ?_⟩
    by_cases e : c = a
    · subst e
      have e2 : b = c := by omega
      subst e2
      exact .inr (le_tr (h.2.resolve_left fun z => z rfl) (g.2.resolve_left fun z => z rfl))
    · exact .inl e
def leS (a b : Str) : Bool := !ltCps b.cps.toList a.cps.toList
theorem leS_tr (a b c : Str) (h : leS a b = true) (g : leS b c = true) : leS a c = true := by
  simp only [leS, Bool.not_eq_true'] at h g ⊢
  exact le_tr h g
theorem leS_tot (a b : Str) : (leS a b || leS b a) = true := by
  simp only [leS, Bool.or_eq_true, Bool.not_eq_true']
  exact le_tot _ _
theorem leS_anti {a b : Str} (h : leS a b = true) (g : leS b a = true) : a = b := by
  simp only [leS, Bool.not_eq_true'] at h g
  have e := le_anti h g
  obtain ⟨x⟩ := a
  obtain ⟨y⟩ := b
  congr 1
  exact Array.toList_inj.mp e
theorem rising_pw : ∀ {p : Str} {l : List Str}, risingS p l = true → (p :: l).Pairwise fun a b => leS a b = true
  | p, [], _ => List.pairwise_singleton ..
  | p, x :: r, h => by
    have h' : (leS p x && risingS x r) = true := h
    rw [Bool.and_eq_true] at h'
    have ih := rising_pw h'.2
    refine List.pairwise_cons.mpr ⟨fun y hy => ?_, ih⟩
    rcases List.mem_cons.mp hy with rfl | hy
    · exact h'.1
    · exact leS_tr _ _ _ h'.1 ((List.pairwise_cons.mp ih).1 y hy)
theorem sorted_pw {l : List Str} (h : sortedS l = true) : l.Pairwise fun a b => leS a b = true := by
  cases l with
  | nil => exact .nil
  | cons x r => exact rising_pw h
theorem pw_unique : ∀ {l m : List Str}, l.Perm m → (l.Pairwise fun a b => leS a b = true) → (m.Pairwise fun a b => leS a b = true) → l = m
  | [], m, p, _, _ => (List.nil_perm.mp p).symm
  | x :: l, [], p, _, _ => by simpa using p
  | x :: l, y :: m, p, hl, hm => by
    obtain ⟨h1, h2⟩ := List.pairwise_cons.mp hl
    obtain ⟨g1, g2⟩ := List.pairwise_cons.mp hm
    have e : x = y := by
      have hx : x ∈ y :: m := p.mem_iff.mp List.mem_cons_self
      have hy : y ∈ x :: l := p.mem_iff.mpr List.mem_cons_self
      rcases List.mem_cons.mp hx with e | hx
      · exact e
      · rcases List.mem_cons.mp hy with e | hy
        · exact e.symm
        · exact leS_anti (h1 y hy) (g1 x hx)
    subst e
    rw [pw_unique ((List.perm_cons x).mp p) h2 g2]
def sortN (l : List Str) : List Str := l.mergeSort leS
theorem sortN_perm (l : List Str) : (sortN l).Perm l := List.mergeSort_perm l leS
theorem sortN_pw (l : List Str) : (sortN l).Pairwise fun a b => leS a b = true := List.pairwise_mergeSort leS_tr leS_tot l
theorem sortN_eq {l ys : List Str} (p : ys.Perm l) (s : sortedS ys = true) : ys = sortN l := pw_unique (p.trans (sortN_perm l).symm) (sorted_pw s) (sortN_pw l)
theorem sortN_of {l m : List Str} (p : l.Perm m) : sortN l = sortN m := pw_unique ((sortN_perm l).trans (p.trans (sortN_perm m).symm)) (sortN_pw l) (sortN_pw m)
theorem sortN_len (l : List Str) : (sortN l).length = l.length := (sortN_perm l).length_eq
theorem sortN_mem {l : List Str} {x : Str} : x ∈ sortN l ↔ x ∈ l := (sortN_perm l).mem_iff
theorem sortN_nodup {l : List Str} (h : l.Nodup) : (sortN l).Nodup := (sortN_perm l).nodup_iff.mpr h
section
variable {κ : Type} [DecidableEq κ]
theorem putD_new' {kd : List (κ × D)} {k : κ} {d : D} (h : k ∉ kd.map (·.1)) : putD kd k d = kd ++ [(k, d)] := by
  unfold putD
  rw [if_neg]
  rw [Bool.not_eq_true, List.any_eq_false]
  intro p hp hc
  exact h (List.mem_map.mpr ⟨p, hp, of_decide_eq_true hc⟩)
theorem valD_mem : ∀ {kd : List (κ × D)} {k : κ} {d : D}, (kd.map (·.1)).Nodup → (k, d) ∈ kd → valD kd k = some d
  | [], _, _, _, h => nomatch h
  | (a, x) :: kd, k, d, hn, h => by
    rw [List.map_cons, List.nodup_cons] at hn
    rcases List.mem_cons.mp h with h | h
    · cases h
      simp [valD, List.find?_cons]
    · have hk : a ≠ k := fun z => hn.1 (by rw [z]; exact List.mem_map.mpr ⟨_, h, rfl⟩)
      have e1 : valD ((a, x) :: kd) k = valD kd k := by simp [valD, List.find?_cons, hk]
      rw [e1]
      exact valD_mem hn.2 h
theorem valD_some {kd : List (κ × D)} {k : κ} : (valD kd k).isSome = true ↔ k ∈ kd.map (·.1) := by
  unfold valD
  rw [Option.isSome_map, List.find?_isSome, List.mem_map]
  exact ⟨fun ⟨p, h1, h2⟩ => ⟨p, h1, of_decide_eq_true h2⟩, fun ⟨p, h1, h2⟩ => ⟨p, h1, decide_eq_true h2⟩⟩
end
section
variable {π : Po} {δ : List Rv} {k : Rv → Prop} {tk tv : TE} {vs vs1 : List Nat} {j j1 : Nat}
/-- a dict by different names -/
theorem dck_N {ss : List Str} (hj : j ∈ vs) (hn : ss.Nodup) (hl : ss.length ≤ 4000) (f : Str → D) (tkey : ∀ s ∈ ss, Wp π tk ((wipeD δ vs).set j (.d (.str s))) fun r => r = .d (.str s)) (tval : ∀ s ∈ ss, Wp π tv ((wipeD δ vs).set j (.d (.str s))) fun r => r.fz = some (f s))
    (fin : k (.new (.dct (ss.map fun s => (.inr s, f s))))) : DcK π (gName j) tYes tk tv vs k δ (ss.map D.str) := by
  refine ⟨fun i acc => acc = (ss.take i).map fun s => (.inr s, f s), rfl, fun i d acc hd hI => ?_, fun acc hI => by rw [hI, List.length_map, List.take_length]; exact fin⟩
  rw [List.getElem?_map] at hd
  obtain ⟨s, hs, rfl⟩ := Option.map_eq_some_iff.mp hd
  have hm := List.mem_of_getElem? hs
  have hlt := (List.getElem?_eq_some_iff.mp hs).1
  have ht : ss.take (i + 1) = ss.take i ++ [s] := by rw [List.take_add_one, hs]; rfl
  refine we_name (wt_yes (ite_t ((tkey s hm).imp fun r hr => (tval s hm).imp fun r2 hr2 => ?_)))
  refine ⟨.str s, .inr s, f s, hr, rfl, hr2, ?_, ?_⟩
  · rw [hI, List.length_map, List.length_take]; omega
  · show putD acc (.inr s) (f s) = (ss.take (i + 1)).map fun s => ((.inr s : Key), f s)
    rw [hI, ht, List.map_append, putD_new']
    · rfl
    · intro m
      rw [List.map_map] at m
      obtain ⟨t, ht1, ht2⟩ := List.mem_map.mp m
      have e : t = s := Sum.inr.inj ht2
      subst e
      have hn2 : (ss.take (i + 1)).Nodup := hn.sublist (List.take_sublist ..)
      rw [ht, List.nodup_append] at hn2
      exact hn2.2.2 t ht1 t (List.mem_singleton.mpr rfl) rfl
/-- a dict by pairs of names -/
def prs (ss : List Str) (g : Str → List Str) : List (List Key × D) := ss.flatMap fun s => (g s).map fun p => ([.inr s, .inr p], .bl true)
theorem prs_mem {ss : List Str} {g : Str → List Str} {s p : Str} (h : [(.inr s : Key), .inr p] ∈ (prs ss g).map (·.1)) : s ∈ ss ∧ p ∈ g s := by
  unfold prs at h
  obtain ⟨e, he, hk⟩ := List.mem_map.mp h
  obtain ⟨t, ht, h2⟩ := List.mem_flatMap.mp he
  obtain ⟨q, hq, rfl⟩ := List.mem_map.mp h2
  have hk : [(.inr t : Key), .inr q] = [.inr s, .inr p] := hk
  injection hk with a b
  injection b with b _
  cases a
  cases b
  exact ⟨ht, hq⟩
theorem dc2k_N {wi1 : TI} {ss : List Str} (g : Str → List Str) (hj : j ∈ vs) (hn : ss.Nodup) (hg : ∀ s ∈ ss, (g s).Nodup) (hl : (prs ss g).length ≤ 3000)
    (inner : ∀ s ∈ ss, WpI π wi1 ((wipeD δ vs).set j (.d (.str s))) fun ds => ds = (g s).map D.str)
    (tkey : ∀ s ∈ ss, ∀ p ∈ g s, Wp π tk ((wipeD ((wipeD δ vs).set j (.d (.str s))) vs1).set j1 (.d (.str p))) fun r => r = .d (.tup [.str s, .str p]))
    (tval : ∀ s ∈ ss, ∀ p ∈ g s, Wp π tv ((wipeD ((wipeD δ vs).set j (.d (.str s))) vs1).set j1 (.d (.str p))) fun r => r.fz = some (.bl true))
    (fin : k (.new (.dcT (prs ss g)))) : Dc2K π (gName j) tYes wi1 (gName j1) tYes tk tv vs vs1 k δ (ss.map D.str) := by
  refine ⟨fun i acc => acc = prs (ss.take i) g, rfl, fun i d acc hd hI => ?_, fun acc hI => by rw [hI, List.length_map, List.take_length]; exact fin⟩
  rw [List.getElem?_map] at hd
  obtain ⟨s, hs, rfl⟩ := Option.map_eq_some_iff.mp hd
  have hm := List.mem_of_getElem? hs
  have ht : ss.take (i + 1) = ss.take i ++ [s] := by rw [List.take_add_one, hs]; rfl
  have hn2 : (ss.take (i + 1)).Nodup := hn.sublist (List.take_sublist ..)
  rw [ht, List.nodup_append] at hn2
  have hp : prs (ss.take (i + 1)) g = prs (ss.take i) g ++ (g s).map fun p => ([.inr s, .inr p], .bl true) := by
    unfold prs
    rw [ht, List.flatMap_append, List.flatMap_cons, List.flatMap_nil, List.append_nil]
  have hlen : (prs (ss.take (i + 1)) g).length ≤ 3000 := by
    refine Nat.le_trans (List.Sublist.length_le ?_) hl
    unfold prs
    have e : ss = ss.take (i + 1) ++ ss.drop (i + 1) := (List.take_append_drop ..).symm
    conv => rhs; rw [e, List.flatMap_append]
    exact List.sublist_append_left ..
  refine we_name (wt_yes (ite_t ?_))
  intro X H σ R o e h
  refine inner s hm X H σ R o e fun J H' ds k1 it w => h J H' ds k1 it ?_
  subst w
  refine ⟨fun m acc1 => acc1 = prs (ss.take i) g ++ ((g s).take m).map fun p => ([.inr s, .inr p], .bl true), by rw [hI]; simp, fun m d1 acc1 hd1 hI1 => ?_, fun acc1 hI1 => by
    show acc1 = prs (ss.take (i + 1)) g
    rw [hI1, List.length_map, List.take_length, hp]⟩
  rw [List.getElem?_map] at hd1
  obtain ⟨p, hp1, rfl⟩ := Option.map_eq_some_iff.mp hd1
  have hm1 := List.mem_of_getElem? hp1
  have ht1 : (g s).take (m + 1) = (g s).take m ++ [p] := by rw [List.take_add_one, hp1]; rfl
  refine we_name (wt_yes (ite_t ((tkey s hm p hm1).imp fun r hr => (tval s hm p hm1).imp fun r2 hr2 => ?_)))
  refine ⟨[.inr s, .inr p], .bl true, hr, hr2, ?_, ?_⟩
  · rw [hp] at hlen
    rw [hI1]
    rw [List.length_append, List.length_map] at hlen ⊢
    rw [List.length_take]
    omega
  · show putD acc1 [.inr s, .inr p] (.bl true) = prs (ss.take i) g ++ ((g s).take (m + 1)).map fun p => ([(.inr s : Key), .inr p], D.bl true)
    rw [hI1, ht1, List.map_append, putD_new']
    · rw [List.append_assoc]
      rfl
    · intro mm
      rw [List.map_append] at mm
      rcases List.mem_append.mp mm with mm | mm
      · exact hn2.2.2 s (prs_mem mm).1 s (List.mem_singleton.mpr rfl) rfl
      · rw [List.map_map] at mm
        obtain ⟨t, ht2, ht3⟩ := List.mem_map.mp mm
        have e : t = p := by
          have ht3 : [(.inr s : Key), .inr t] = [.inr s, .inr p] := ht3
          injection ht3 with _ b
          injection b with b _
          exact Sum.inr.inj b
        subst e
        have hn3 : ((g s).take (m + 1)).Nodup := (hg s hm).sublist (List.take_sublist ..)
        rw [ht1, List.nodup_append] at hn3
        exact hn3.2.2 t ht2 t (List.mem_singleton.mpr rfl) rfl
end
section
variable {π : Po} {δ : List Rv} {k : Ke} {t : TS}
theorem ws_cut {I : List Rv → Prop} (h : Ws π t { k with nx := I } δ) (g : ∀ δ', I δ' → k.nx δ') : Ws π t k δ := fun H0 X0 L X H σ D iv ev ow en =>
  h H0 X0 L X H σ D iv ev ow ⟨fun X' H' σ' δ' a b c d z => en.nx X' H' σ' δ' a b c d (g δ' z), en.bk, en.ct, en.rt⟩
theorem ws_gv {n : Nat} {x : D} {r : Rv} (hr : δ[n]? = some r) (c : r = .d x ∨ ∃ p, r = .own p x) (q : Ws π t k (δ.set n (.d x))) : Ws π t k δ := by
  rcases c with rfl | ⟨p, rfl⟩
  · have e : δ.set n (.d x) = δ := by
      apply List.ext_getElem?
      intro i
      by_cases h : n = i
      · subst h
        have hl := (List.getElem?_eq_some_iff.mp hr).1
        rw [List.getElem?_set_self hl, hr]
      · rw [List.getElem?_set_ne h]
    rw [e] at q
    exact q
  · exact ws_frz hr q
end
def exScope : Expr → Scope
  | .ListComp _ _ s _ => s
  | .DictComp _ _ _ s _ => s
  | .Call _ (e :: _) _ _ => exScope e
  | _ => { kind := .function, names := [], isGenerator := false, isCoroutine := false }
def stScope : Stmt → Scope
  | .Return (some e) _ => exScope e
  | .Assign _ e _ => exScope e
  | _ => { kind := .function, names := [], isGenerator := false, isCoroutine := false }
def rlb (sc0 sc : Scope) : Scope := { sc with names := sc.names.map fun (n, k) => if (k == NameKind.free && sc0.kind == .function && sc0.names.lookup n == some .cell) then (n, NameKind.cell) else (n, k) }
def ps0 : Stmt := .Pass ⟨0, 0, 0, 0⟩
section
variable {π : Po} {δ : List Rv} {k : Ke} {t : TA} {i j : Nat}
theorem ws_par (q : WpA π t δ fun rs => ∃ x y, rs = [.d x, .d y] ∧ k.nx ((δ.set i (.d x)).set j (.d y))) : Ws π (tPar i j t) k δ := fun H0 X0 L X H σ D iv ev ow en => by
  refine q X H σ _ iv.ok ev fun vs rs H1 k1 a w => ?_
  obtain ⟨x, y, rfl, kk⟩ := w
  have iv1 := iv.keep k1
  have ev1 := ev.keep iv.ok k1
  match vs, a with
  | [v1, v2], ⟨a1, a2, _⟩ =>
    have a1 : At (cut X H1) v1 x := a1
    have a2 : At (cut X H1) v2 y := a2
    refine ⟨v1, v2, rfl, ?_⟩
    exact we_name (kn := fun δ' => δ' = δ.set i (.d x)) (i := i) rfl X H1 σ v1 (fun σ1 H' => D.nx (σ1.set j (some v2)) H') iv1.ok ev1 a1 fun σ1 δ1 ev2 s1 e1 =>
      we_name (kn := fun δ' => δ' = δ1.set j (.d y)) (i := j) rfl X H1 σ1 v2 (fun σ2 H' => D.nx σ2 H') iv1.ok ev2 a2 fun σ2 δ2 ev3 s2 e2 =>
        en.nx X H1 σ2 δ2 iv1 ev3 (fun l r p h1 h2 => ow l r p (s1 l r p (s2 l r p h1 h2) h2) h2) (iv.ok.fr k1) (by rw [e2, e1]; exact kk)
end
def Rv.an : Rv → Option D
  | .d x => some x
  | .new x => some x
  | .own _ x => some x
  | _ => none
theorem AtO.at {X : Xs} {H : Hp} {p : Addr} {x : D} (a : AtO X H p x) : At H (.ref p) x := by
  cases x with
  | lst ds => obtain ⟨vs, e, t⟩ := a; exact .lst e (t.mono cut_sm)
  | dct kd => obtain ⟨kv, e, e2, t⟩ := a; exact .dct (.inl e) e2 (t.mono cut_sm)
  | dcT kd => obtain ⟨kv, e, e2, t⟩ := a; exact .dcT (.inl e) e2 (t.mono cut_sm)
  | obj C fd => obtain ⟨dx, fs, e, e2, t⟩ := a; exact .obj e e2 (t.mono cut_sm)
  | _ => exact a.elim
theorem RAt.an {π : Po} {X : Xs} {H0 H : Hp} {r : Rv} {v : V} {x : D} (a : RAt π X H0 H r v) (h : r.an = some x) : At H v x := by
  cases r with
  | d y => cases h; exact At.mono cut_sm a
  | new y => cases h; obtain ⟨p, rfl, _, t⟩ := a; exact t.at
  | own q y => cases h; obtain ⟨rfl, _, _, t⟩ := a; exact t.at
  | un => cases h
  | pot => cases h
  | raw w => cases h
def ans : List Rv → Option (List D)
  | [] => some []
  | r :: rs => match r.an, ans rs with
    | some x, some xs => some (x :: xs)
    | _, _ => none
theorem RAts.ans {π : Po} {X : Xs} {H0 H : Hp} : ∀ {rs : List Rv} {vs : List V} {ds : List D}, RAts π X H0 H rs vs → ans rs = some ds → Ats H vs ds
  | [], [], _, _, h => by cases h; exact .nil
  | [], _ :: _, _, a, _ => a.elim
  | _ :: _, [], _, a, _ => a.elim
  | r :: rs, v :: vs, ds, ⟨a, b⟩, h => by
    unfold Dt.ans at h
    cases hr : r.an with
    | none => rw [hr] at h; cases h
    | some x =>
      cases hs : Dt.ans rs with
      | none => rw [hr, hs] at h; cases h
      | some xs =>
        rw [hr, hs] at h
        cases h
        exact .cons (a.an hr) (b.ans hs)
section
variable {π : Po} {δ : List Rv} {kk : Rv → Prop} {t : TA} {ρ : D → Str → Prop} {k j : Nat}
theorem w_reprL (q : WpA π t δ fun rs => ∃ ds tx, ans rs = some ds ∧ ds.length ≤ 4000 ∧ Shw ρ k j (.lst ds) tx ∧ tx.length ≤ sizeLine ∧ kk (.d (.str tx))) : Wp π (tCB (rShow ρ k j) (tCons (tLst t) tNil)) δ kk := fun X H σ Q o e h => by
  refine q X H σ _ o e fun vs rs H1 k1 a w => ?_
  obtain ⟨ds, tx, ha, hl, hw, hz, kq⟩ := w
  have at_ := a.ans ha
  have o1 := o.keep k1
  refine ⟨by rw [at_.length]; exact le_line hl, fun p np => ?_⟩
  have S1 : Same H1 (L2.upd H1 p (.lst vs)) := fun b u e => by rw [upd_ne (ne_of_none e np)]; exact e
  have k2 : Kp π H1 (L2.upd H1 p (.lst vs)) := o1.kp.add o1 np
  refine ⟨p, .lst ds, tx, L2.upd H1 p (.lst vs), rfl, .refl _, .lst upd_same (at_.mono (.of S1)), rfl, hw, hz, fun H' S => ?_⟩
  exact h (.str tx) (.d (.str tx)) H' ((k1.trans k2).trans (Kp.of_same (o1.keep k2) S)) (At.str tx) kq
end
end Dt
namespace Lw
open PySem PySem.Spec PyProof.Rows L2 Ly Dt
local macro_rules | `(tactic| walk_at "wk") => `(tactic| first
  | ((with_reducible refine' w_var ?hv ?hn ?_); (case hv => exact rfl); (case hn => (intro z; cases z)))
  | with_reducible refine w_int ?_
  | with_reducible refine w_str ?_
  | with_reducible refine w_op ?_
  | with_reducible refine wa_cons ?_
  | with_reducible refine wa_nil ?_
  | with_reducible refine w_reprL ?_
  | with_reducible refine w_isi2 ?_
  | with_reducible refine w_cb ?_
  | with_reducible refine w_call ?_
  | ((with_reducible refine' ws_retV ?hv ?_); (case hv => exact rfl))
  | with_reducible refine ws_seq ?_
  | with_reducible refine ws_asg ?_
  | with_reducible refine ws_ret ?_
  | with_reducible refine ws_if ?_
  | with_reducible refine ws_next ?_
  | ((with_reducible refine' ws_append ?hv ?hz ?_); (case hv => exact rfl); rotate_left)
  | with_reducible refine ws_drop ?_
  | with_reducible refine ws_retN ?_
  | ((with_reducible refine wg_d ?_); dsimp only [List.set])
  | ((with_reducible refine wg_raw ?_); dsimp only [List.set])
  | ((with_reducible refine wg_E ?_))
  | ((with_reducible refine' we_tup ?hl ?_); (case hl => exact rfl))
  | with_reducible refine wes_cons ?_
  | with_reducible refine wes_nil ?_
  | ((with_reducible refine we_name ?_); dsimp only [List.set])
  | with_reducible refine out_d ?_
  | with_reducible refine out_new ?_
  | with_reducible refine ex_bl ?_
  | with_reducible refine ite_t ?_
  | ((with_reducible refine ex_fzd ?_); dsimp only [List.set, List.nil_append, List.cons_append])
  | ((with_reducible refine ex_fzn ?_); dsimp only [List.set, List.nil_append, List.cons_append])
  | with_reducible refine ite_nt ?_
  | with_reducible refine ite_nf ?_
  | with_reducible refine ite_f ?_
  | with_reducible refine wt_tb ?_
  | with_reducible refine wt_test ?_
  | with_reducible refine wt_and ?_
  | with_reducible refine wt_or ?_
  | with_reducible refine wt_not ?_
  | with_reducible refine w_andV ?_
  | with_reducible refine w_orV ?_
  | with_reducible refine w_notV ?_
  | with_reducible refine w_if ?_
  | with_reducible refine w_bl ?_
  | with_reducible refine w_non ?_
  | with_reducible refine w_ty ?_
  | with_reducible refine w_ref ?_
  | with_reducible refine w_un ?_
  | ((with_reducible refine w_tup ?_); skip)
  | ((with_reducible refine w_lst ?_); skip)
  | ((with_reducible refine' Exists.intro _ (And.intro ?hf (And.intro ?hl ?_))); (case hf => exact rfl); (case hl => exact Nat.le_of_ble_eq_true rfl))
  | with_reducible refine w_fld ?_
  | ((with_reducible refine' fld_of ?ho ?c ?n ?l ?_); (case ho => exact rfl); (case c => assumption); (case n => with_reducible assumption); (case l => exact rfl))
  | with_reducible refine wp_top ?_
  | with_reducible refine wp_bot ?_
  | with_reducible refine w_prop ?_
  | with_reducible refine w_meth ?_
  | with_reducible refine w_smeth ?_
  | with_reducible refine wop_addI ?_
  | with_reducible refine wop_subI ?_
  | ((with_reducible refine' wop_mulI ?c ?_); rotate_left)
  | ((with_reducible refine' wop_fdI ?c ?_); rotate_left)
  | with_reducible refine wop_mdI (by first | decide | assumption) ?_
  | ((with_reducible refine' wop_mdI ?c ?_); rotate_left)
  | ((with_reducible refine' wop_I0 ?e ?_); (case e => exact rfl))
  | ((with_reducible refine' wop_ixT ?e ?_); (case e => exact rfl))
  | ((with_reducible refine' wcb_lenL ?e ?_); (case e => exact rfl))
  | with_reducible refine wcb_lenT ?_
  | ((with_reducible refine' wop_fdX ?c ?_); rotate_left)
  | ((with_reducible refine' wun_U ?e ?_); (case e => exact rfl))
  | with_reducible refine wop_eqI ?_
  | with_reducible refine wop_neI ?_
  | with_reducible refine wop_eqS ?_
  | with_reducible refine wop_neS ?_
  | with_reducible refine wop_isN ?_
  | with_reducible refine wop_notN ?_
  | ((with_reducible refine' wop_inS ?e ?_); (case e => exact rfl))
  | ((with_reducible refine' wop_niS ?e ?_); (case e => exact rfl))
  | with_reducible refine wop_inST ?_
  | with_reducible refine wcb_gcd ?_
  | with_reducible refine wcb_abs ?_
  | with_reducible refine wcb_max2 ?_
  | with_reducible refine wcb_min2 ?_
  | with_reducible refine wcb_int ?_
  | ((with_reducible refine' wcb_isi (b := true) ?ho ?hb ?_); (case ho => exact rfl); (case hb => (dsimp only [tyN]; decide +kernel)))
  | ((with_reducible refine' wcb_isi (b := false) ?ho ?hb ?_); (case ho => exact rfl); (case hb => (dsimp only [tyN]; decide +kernel)))
  | ((with_reducible refine' wcb_listOf ?e ?_); (case e => exact rfl))
  | with_reducible refine wcb_listOfT ?_
  | ((with_reducible refine' wcb_tupOf ?e ?_); (case e => exact rfl))
  | with_reducible refine w_chain ?_
  | with_reducible refine wcb_strS ?_
  | ((with_reducible refine' wcb_lenD ?e ?_); (case e => exact rfl))
  | ((with_reducible refine' wcb_listD ?e ?_); (case e => exact rfl))
  | with_reducible refine w_dnewK ?_
  | with_reducible refine w_dget ?_
  | with_reducible refine w_din ?_
  | with_reducible refine w_dni ?_
  | with_reducible refine w_lenSet ?_
  | with_reducible refine w_listVals ?_
  | with_reducible refine w_chain ?_
  | ((with_reducible refine' wt_yes ?_)))
variable {W : Wd} {a : Ad}
def bSorted (rs : List Rv) (k : Rv → Prop) : Prop := ∃ x ss, rs = [.d x] ∧ NamesOf x ss ∧ ss.length < 64 ∧ k (.new (.lst ((sortN ss).map D.str)))
theorem map_strId (ss : List Str) : (ss.map D.str).map (fun d => d) = ss.map D.str := by rw [List.map_id']
theorem k_sorted_names (T : Txt W.K W.mg a) : Cl W 1 "sorted_names" (spW false bSorted) := by
  refine cl_W T.d_sorted_names sc_sorted_names bd_sorted_names (fun rs k ⟨_, _, h, _⟩ => by rw [h]; rfl) ?_
  refine body_or (B1 := fun rs k => ∃ ss, rs = [.d (.lst (ss.map D.str))] ∧ ss.length < 64 ∧ k (.new (.lst ((sortN ss).map D.str))))
    (B2 := fun rs k => ∃ x ss, rs = [.d x] ∧ NamesOf x ss ∧ (∀ ds, x ≠ .lst ds) ∧ ss.length < 64 ∧ k (.new (.lst ((sortN ss).map D.str)))) (fun rs k ⟨x, ss, h, n, l, q⟩ => ?_) ?_ ?_
  · cases n with
    | lst => exact .inl ⟨ss, h, l, q⟩
    | tup => exact .inr ⟨_, ss, h, .tup ss, fun ds z => (by cases z), l, q⟩
    | dct e => exact .inr ⟨_, ss, h, .dct e, fun ds z => (by cases z), l, q⟩
  · refine body_W (n := 1) (m := 1) rfl (fun rs k ⟨_, h, _⟩ => by rw [h]; rfl) fun f cdv A outer s H E hr => ⟨_, (pss_one (ps_ret (pe_callB (r := rSortedS W.K) cr_sortedS (by rfl) T.b_sorted (by decide +kernel) (pa_cons (pe_lc (own := [("name", 1)]) (g := (gName 1)) (tt := tYes) rfl sc_sorted_names.nd (pi_listK (K := W.K) rfl (pv 0)) (blkOk_by (N := N_sorted_names) (sc := defScope s_sorted_names) (by decide +kernel)) (fun _ _ _ _ _ => (pg_name (i := 1) sc_sorted_names.nd rfl (Or.inl rfl))) (fun _ _ _ _ _ => pts_nil) (fun _ _ _ _ _ => (pe_callTy (r := rStrS) call_strS (by rfl) T.b_str (by decide +kernel) (pa_cons (pv 1) pa_nil)))) pa_nil)))), fun π rs kr hp hB => ?_⟩
    obtain ⟨ss, rfl, l, q⟩ := hB
    dsimp only [uns, List.replicate, List.cons_append, List.nil_append]
    repeat walk_at "wk"
    refine w_lcM (j := 1) (by decide) (fun d => d) (wi_list ?_)
    repeat walk_at "wk"
    refine ⟨_, rfl, by rw [List.length_map]; omega, fun d hd => ?_, ?_⟩
    · obtain ⟨s, _, rfl⟩ := List.mem_map.mp hd
      dsimp only [List.map, wipeD, List.set]
      repeat walk_at "wk"
      rfl
    · rw [map_strId]
      repeat walk_at "wk"
      exact wcb_sortedS rfl l fun ys pm so => by rw [sortN_eq pm so]; exact out_new q
  · refine body_or (B1 := fun rs k => ∃ ss, rs = [.d (.tup (ss.map D.str))] ∧ ss.length < 64 ∧ k (.new (.lst ((sortN ss).map D.str))))
      (B2 := fun rs k => ∃ (kd : List (Key × D)) (ss : List Str), rs = [.d (.dct kd)] ∧ kd.map (·.1) = ss.map Sum.inr ∧ ss.length < 64 ∧ k (.new (.lst ((sortN ss).map D.str)))) (fun rs k ⟨x, ss, h, n, nl, l, q⟩ => ?_) ?_ ?_
    · cases n with
      | lst => exact (nl _ rfl).elim
      | tup => exact .inl ⟨ss, h, l, q⟩
      | dct e => exact .inr ⟨_, ss, h, e, l, q⟩
    · refine body_W (n := 1) (m := 1) rfl (fun rs k ⟨_, h, _⟩ => by rw [h]; rfl) fun f cdv A outer s H E hr => ⟨_, (pss_one (ps_ret (pe_callB (r := rSortedS W.K) cr_sortedS (by rfl) T.b_sorted (by decide +kernel) (pa_cons (pe_lc (own := [("name", 1)]) (g := (gName 1)) (tt := tYes) rfl sc_sorted_names.nd (pi_tupK (K := W.K) rfl (pv 0)) (blkOk_by (N := N_sorted_names) (sc := defScope s_sorted_names) (by decide +kernel)) (fun _ _ _ _ _ => (pg_name (i := 1) sc_sorted_names.nd rfl (Or.inl rfl))) (fun _ _ _ _ _ => pts_nil) (fun _ _ _ _ _ => (pe_callTy (r := rStrS) call_strS (by rfl) T.b_str (by decide +kernel) (pa_cons (pv 1) pa_nil)))) pa_nil)))), fun π rs kr hp hB => ?_⟩
      obtain ⟨ss, rfl, l, q⟩ := hB
      dsimp only [uns, List.replicate, List.cons_append, List.nil_append]
      repeat walk_at "wk"
      refine w_lcM (j := 1) (by decide) (fun d => d) (wi_tup ?_)
      repeat walk_at "wk"
      refine ⟨_, rfl, by rw [List.length_map]; omega, fun d hd => ?_, ?_⟩
      · obtain ⟨s, _, rfl⟩ := List.mem_map.mp hd
        dsimp only [List.map, wipeD, List.set]
        repeat walk_at "wk"
        rfl
      · rw [map_strId]
        repeat walk_at "wk"
        exact wcb_sortedS rfl l fun ys pm so => by rw [sortN_eq pm so]; exact out_new q
    · refine body_W (n := 1) (m := 1) rfl (fun rs k ⟨_, _, h, _⟩ => by rw [h]; rfl) fun f cdv A outer s H E hr => ⟨_, (pss_one (ps_ret (pe_callB (r := rSortedS W.K) cr_sortedS (by rfl) T.b_sorted (by decide +kernel) (pa_cons (pe_lockO (pe_lc (own := [("name", 1)]) (g := (gName 1)) (tt := tYes) rfl sc_sorted_names.nd (pi_keys (pv 0)) (blkOk_by (N := N_sorted_names) (sc := defScope s_sorted_names) (by decide +kernel)) (fun _ _ _ _ _ => (pg_name (i := 1) sc_sorted_names.nd rfl (Or.inl rfl))) (fun _ _ _ _ _ => pts_nil) (fun _ _ _ _ _ => (pe_callTy (r := rStrS) call_strS (by rfl) T.b_str (by decide +kernel) (pa_cons (pv 1) pa_nil))))) pa_nil)))), fun π rs kr hp hB => ?_⟩
      obtain ⟨kd, ss, rfl, e, l, q⟩ := hB
      dsimp only [uns, List.replicate, List.cons_append, List.nil_append]
      repeat walk_at "wk"
      refine w_lcK (j := 1) (by decide) (fun d => d) (std_var rfl) (by rw [keys_len e]; omega) (fun d hd => ?_) ?_
      · rw [keys_str e] at hd
        obtain ⟨s, _, rfl⟩ := List.mem_map.mp hd
        dsimp only [List.map, wipeD, List.set]
        repeat walk_at "wk"
        rfl
      · rw [keys_str e, map_strId]
        repeat walk_at "wk"
        exact wcb_sortedS rfl l fun ys pm so => by rw [sortN_eq pm so]; exact out_new q
/-- a dict all of whose keys are names -/
theorem k_is_name_dict (T : Txt W.K W.mg a) : Cl W 2 "is_name_dict" (spW false fun rs k => ∃ (kd : List (Key × D)) (ss : List Str), rs = [.d (.dct kd)] ∧ kd.map (·.1) = ss.map Sum.inr ∧ ss.length ≤ 4000 ∧ (∀ s ∈ ss, s.length ≤ sizeLine) ∧ k (.d (.bl (ss.all nmB)))) := by
  refine cl_W T.d_is_name_dict sc_is_name_dict bd_is_name_dict (fun rs k ⟨_, _, h, _⟩ => by rw [h]; rfl) ?_
  refine body_W (n := 1) (m := 1) rfl (fun rs k ⟨_, _, h, _⟩ => by rw [h]; rfl) fun f cdv A outer s H E hr => ⟨_, (pss_one (ps_ret (pe_and (pe_callB (r := rIsi W.K) call_isi (by rfl) T.b_isinstance (by decide +kernel) (pa_cons (pv 0) (pa_cons (pe_bltn (by rfl) T.b_dict (by decide +kernel) (v := .ty "dict") rfl) pa_nil))) (pe_one (pe_callB (r := rAll W.K) (cr_all rfl) (by rfl) T.b_all (by decide +kernel) (pa_cons (pe_lockO (pe_lc (own := [("name", 1)]) (g := (gName 1)) (tt := tYes) rfl sc_is_name_dict.nd (pi_keys (pv 0)) (blkOk_by (N := N_is_name_dict) (sc := defScope s_is_name_dict) (by decide +kernel)) (fun _ _ _ _ _ => (pg_name (i := 1) sc_is_name_dict.nd rfl (Or.inl rfl))) (fun _ _ _ _ _ => pts_nil) (fun _ _ _ _ _ => (pe_cl (k_is_name T) hr (by decide) rfl (pa_cons (pv 1) pa_nil))))) pa_nil)))))), fun π rs kr hp hB => ?_⟩
  obtain ⟨kd, ss, rfl, e, l, hs, q⟩ := hB
  dsimp only [uns, List.replicate, List.cons_append, List.nil_append]
  repeat walk_at "wk"
  refine w_lcK (j := 1) (by decide) (fun d => match d with | .str s => .bl (nmB s) | _ => .bl false) (std_var rfl) (by rw [keys_len e]; omega) (fun d hd => ?_) ?_
  · rw [keys_str e] at hd
    obtain ⟨s, hm, rfl⟩ := List.mem_map.mp hd
    dsimp only [List.map, wipeD, List.set]
    repeat walk_at "wk"
    exact wcb_W0 (rs := [.d (.str s)]) rfl rfl ⟨s, rfl, hs s hm, fun z => (by cases z), rfl⟩
  · rw [keys_str e, List.map_map]
    repeat walk_at "wk"
    refine wcb_all (bs := ss.map nmB) (by rw [List.map_map]; rfl) (out_d ?_)
    rw [List.all_map]
    exact q
end Lw
namespace Dt
open PySem PySem.Spec PyProof.Rows L2 Ly
theorem divInt_same {x y b : Int} (h : b ≠ 0) : Rat.divInt x b + Rat.divInt y b = Rat.divInt (x + y) b := by
  rw [Rat.divInt_add_divInt _ _ h h, ← Int.add_mul, Rat.divInt_mul_right h]
theorem part_q {q : Rat} {b : Int} (hb : (q.den : Int) ∣ b) (h : b ≠ 0) : Rat.divInt (q.num * (b / (q.den : Int))) b = q := by
  obtain ⟨c, rfl⟩ := hb
  have hd : (q.den : Int) ≠ 0 := Int.ne_of_gt (den_pos q)
  have hc : c ≠ 0 := fun z => h (by rw [z, Int.mul_zero])
  rw [Int.mul_ediv_cancel_left _ hd, Rat.divInt_mul_right hc, q_lo]
theorem sum_q : ∀ {qs : List Rat} {b : Int}, b ≠ 0 → (∀ q ∈ qs, (q.den : Int) ∣ b) → Rat.divInt ((qs.map fun q => q.num * (b / (q.den : Int))).sum) b = qs.sum
  | [], b, h, _ => by
    rw [List.map_nil, List.sum_nil, List.sum_nil, Rat.zero_divInt]
  | q :: qs, b, h, hd => by
    rw [List.map_cons, List.sum_cons, List.sum_cons, ← divInt_same h, part_q (hd q List.mem_cons_self) h, sum_q h fun p hp => hd p (List.mem_cons_of_mem _ hp)]
inductive NumsQ (C : Addr) : List D → List Rat → Prop
  | nil : NumsQ C [] []
  | cons {d : D} {q : Rat} {ds : List D} {qs : List Rat} (h : NumQ C d q) (t : NumsQ C ds qs) : NumsQ C (d :: ds) (q :: qs)
theorem NumsQ.length {C : Addr} : ∀ {ds : List D} {qs : List Rat}, NumsQ C ds qs → ds.length = qs.length
  | _, _, .nil => rfl
  | _, _, .cons _ t => congrArg (· + 1) t.length
theorem NumsQ.get {C : Addr} : ∀ {ds : List D} {qs : List Rat} {i : Nat} {d : D}, NumsQ C ds qs → ds[i]? = some d → ∃ q, qs[i]? = some q ∧ NumQ C d q
  | _, _, _, _, .nil, e => by simp at e
  | _, _, 0, _, .cons h _, e => by simp at e; subst e; exact ⟨_, rfl, h⟩
  | _, _, i + 1, d, .cons _ t, e => by
    obtain ⟨q, h1, h2⟩ := t.get (i := i) (d := d) (by simpa using e)
    exact ⟨q, by simpa using h1, h2⟩
theorem NumsQ.rats {C : Addr} : ∀ qs : List Rat, NumsQ C (qs.map (ratQ C)) qs
  | [] => .nil
  | q :: qs => .cons (.rat q) (NumsQ.rats qs)
theorem sz_sum {n : Nat} : ∀ {xs : List Int} {m : Nat}, (∀ x ∈ xs, Sz n x) → xs.length < 2 ^ m → Sz (n + m) xs.sum := by
  intro xs m h hl
  have key : ∀ ys : List Int, (∀ x ∈ ys, Sz n x) → ys.sum.natAbs ≤ ys.length * 2 ^ n := by
    intro ys
    induction ys with
    | nil => intro _; simp
    | cons y ys ih =>
      intro hy
      have h1 := ih fun x hx => hy x (List.mem_cons_of_mem _ hx)
      have h2 : y.natAbs < 2 ^ n := hy y List.mem_cons_self
      rw [List.sum_cons, List.length_cons, Nat.add_mul, Nat.one_mul]
      have h3 := Int.natAbs_add_le y ys.sum
      omega
  have h1 := key xs h
  show xs.sum.natAbs < 2 ^ (n + m)
  refine Nat.lt_of_le_of_lt h1 ?_
  rw [Nat.pow_add, Nat.mul_comm]
  exact Nat.mul_lt_mul_of_pos_left hl (Nat.two_pow_pos n)
end Dt
namespace Lw
open PySem PySem.Spec PyProof.Rows L2 Ly Dt
local macro_rules | `(tactic| walk_at "wk") => `(tactic| first
  | ((with_reducible refine' w_var ?hv ?hn ?_); (case hv => exact rfl); (case hn => (intro z; cases z)))
  | with_reducible refine w_int ?_
  | with_reducible refine w_str ?_
  | with_reducible refine w_op ?_
  | with_reducible refine wa_cons ?_
  | with_reducible refine wa_nil ?_
  | with_reducible refine w_reprL ?_
  | with_reducible refine w_isi2 ?_
  | with_reducible refine w_cb ?_
  | with_reducible refine w_call ?_
  | ((with_reducible refine' ws_retV ?hv ?_); (case hv => exact rfl))
  | with_reducible refine ws_seq ?_
  | with_reducible refine ws_asg ?_
  | with_reducible refine ws_ret ?_
  | with_reducible refine ws_if ?_
  | with_reducible refine ws_next ?_
  | ((with_reducible refine' ws_append ?hv ?hz ?_); (case hv => exact rfl); rotate_left)
  | with_reducible refine ws_drop ?_
  | with_reducible refine ws_retN ?_
  | ((with_reducible refine wg_d ?_); dsimp only [List.set])
  | ((with_reducible refine wg_raw ?_); dsimp only [List.set])
  | ((with_reducible refine wg_E ?_))
  | ((with_reducible refine' we_tup ?hl ?_); (case hl => exact rfl))
  | with_reducible refine wes_cons ?_
  | with_reducible refine wes_nil ?_
  | ((with_reducible refine we_name ?_); dsimp only [List.set])
  | with_reducible refine out_d ?_
  | with_reducible refine out_new ?_
  | with_reducible refine ex_bl ?_
  | with_reducible refine ite_t ?_
  | ((with_reducible refine ex_fzd ?_); dsimp only [List.set, List.nil_append, List.cons_append])
  | ((with_reducible refine ex_fzn ?_); dsimp only [List.set, List.nil_append, List.cons_append])
  | with_reducible refine ite_nt ?_
  | with_reducible refine ite_nf ?_
  | with_reducible refine ite_f ?_
  | with_reducible refine wt_tb ?_
  | with_reducible refine wt_test ?_
  | with_reducible refine wt_and ?_
  | with_reducible refine wt_or ?_
  | with_reducible refine wt_not ?_
  | with_reducible refine w_andV ?_
  | with_reducible refine w_orV ?_
  | with_reducible refine w_notV ?_
  | with_reducible refine w_if ?_
  | with_reducible refine w_bl ?_
  | with_reducible refine w_non ?_
  | with_reducible refine w_ty ?_
  | with_reducible refine w_ref ?_
  | with_reducible refine w_un ?_
  | ((with_reducible refine w_tup ?_); skip)
  | ((with_reducible refine w_lst ?_); skip)
  | ((with_reducible refine' Exists.intro _ (And.intro ?hf (And.intro ?hl ?_))); (case hf => exact rfl); (case hl => exact Nat.le_of_ble_eq_true rfl))
  | with_reducible refine w_fld ?_
  | ((with_reducible refine' fld_of ?ho ?c ?n ?l ?_); (case ho => exact rfl); (case c => assumption); (case n => with_reducible assumption); (case l => exact rfl))
  | with_reducible refine wp_top ?_
  | with_reducible refine wp_bot ?_
  | with_reducible refine w_prop ?_
  | with_reducible refine w_meth ?_
  | with_reducible refine w_smeth ?_
  | with_reducible refine wop_addI ?_
  | with_reducible refine wop_subI ?_
  | ((with_reducible refine' wop_mulI ?c ?_); rotate_left)
  | ((with_reducible refine' wop_fdI ?c ?_); rotate_left)
  | with_reducible refine wop_mdI (by first | decide | assumption) ?_
  | ((with_reducible refine' wop_mdI ?c ?_); rotate_left)
  | ((with_reducible refine' wop_I0 ?e ?_); (case e => exact rfl))
  | ((with_reducible refine' wop_ixT ?e ?_); (case e => exact rfl))
  | ((with_reducible refine' wcb_lenL ?e ?_); (case e => exact rfl))
  | with_reducible refine wcb_lenT ?_
  | ((with_reducible refine' wop_fdX ?c ?_); rotate_left)
  | ((with_reducible refine' wun_U ?e ?_); (case e => exact rfl))
  | with_reducible refine wop_eqI ?_
  | with_reducible refine wop_neI ?_
  | with_reducible refine wop_eqS ?_
  | with_reducible refine wop_neS ?_
  | with_reducible refine wop_isN ?_
  | with_reducible refine wop_notN ?_
  | ((with_reducible refine' wop_inS ?e ?_); (case e => exact rfl))
  | ((with_reducible refine' wop_niS ?e ?_); (case e => exact rfl))
  | with_reducible refine wop_inST ?_
  | with_reducible refine wcb_gcd ?_
  | with_reducible refine wcb_abs ?_
  | with_reducible refine wcb_max2 ?_
  | with_reducible refine wcb_min2 ?_
  | with_reducible refine wcb_int ?_
  | ((with_reducible refine' wcb_isi (b := true) ?ho ?hb ?_); (case ho => exact rfl); (case hb => (dsimp only [tyN]; decide +kernel)))
  | ((with_reducible refine' wcb_isi (b := false) ?ho ?hb ?_); (case ho => exact rfl); (case hb => (dsimp only [tyN]; decide +kernel)))
  | ((with_reducible refine' wcb_listOf ?e ?_); (case e => exact rfl))
  | with_reducible refine wcb_listOfT ?_
  | ((with_reducible refine' wcb_tupOf ?e ?_); (case e => exact rfl))
  | with_reducible refine w_chain ?_
  | with_reducible refine wcb_strS ?_
  | ((with_reducible refine' wcb_lenD ?e ?_); (case e => exact rfl))
  | ((with_reducible refine' wcb_listD ?e ?_); (case e => exact rfl))
  | with_reducible refine w_dnewK ?_
  | with_reducible refine w_dget ?_
  | with_reducible refine w_din ?_
  | with_reducible refine w_dni ?_
  | with_reducible refine w_lenSet ?_
  | with_reducible refine w_listVals ?_
  | with_reducible refine w_chain ?_
  | ((with_reducible refine' wt_yes ?_)))
variable {W : Wd} {a : Ad}
def bCommon (C : Addr) (rs : List Rv) (k : Rv → Prop) : Prop := ∃ (qs : List Rat) (L : Int), rs = [.d (.lst (qs.map (ratQ C)))] ∧ qs.length ≤ 4000 ∧ 0 < L ∧ Sz 8000 L ∧ (∀ q ∈ qs, (q.den : Int) ∣ L) ∧ ∀ b : Int, 0 < b → b ∣ L → (∀ q ∈ qs, (q.den : Int) ∣ b) → k (.d (.int b))
/-- a number that all bottoms divide -/
theorem k_common_bottom (T : Txt W.K W.mg a) : Cl W 1 "common_bottom" (spW false (bCommon a.Ratio)) := by
  refine cl_W T.d_common_bottom sc_common_bottom bd_common_bottom (fun rs k ⟨_, _, h, _⟩ => by rw [h]; rfl) ?_
  refine body_W (n := 1) (m := 2) rfl (fun rs k ⟨_, _, h, _⟩ => by rw [h]; rfl) fun f cdv A outer s H E hr => ⟨_, (pss_cons (ps_set (i := 1) sc_common_bottom.nd rfl (Or.inl rfl) pe_int) (pss_cons (ps_for PassesOwn.never rfl (pi_listK (K := W.K) rfl (pv 0)) (pg_name (i := 2) sc_common_bottom.nd rfl (Or.inl rfl)) (pss_one (ps_if (pt_cmpR (r := rNeU W.K) (op_neU hr.units) (pe_op op_modU (pv 1) (pe_fldK (K := W.K) rfl (pv 2) rfl)) pe_int (nomark _)) (pss_one (ps_set (i := 1) sc_common_bottom.nd rfl (Or.inl rfl) (pe_callBfun (r := rLcm) call_lcm (by rfl) T.g_lcm (pa_cons (pv 1) (pa_cons (pe_fldK (K := W.K) rfl (pv 2) rfl) pa_nil))))) pss_nil))) (pss_one (ps_ret (pv 1))))), fun π rs kr hp hB => ?_⟩
  obtain ⟨qs, L, rfl, hl, L0, zL, hL, q⟩ := hB
  dsimp only [uns, List.replicate, List.cons_append, List.nil_append]
  have cR := T.o_Ratio.cls
  have nB := T.n_Ratio_bottom
  have zb : ∀ b : Int, 0 < b → b ∣ L → Sz 8000 b := fun b b0 bd => sz_le zL (by
    have := Int.le_of_dvd L0 bd
    omega)
  repeat walk_at "wk"
  refine ws_for (wi_list ?_)
  repeat walk_at "wk"
  refine ⟨_, rfl, fun i δ => ∃ (b : Int) (r : Rv), δ = [.d (.lst (qs.map (ratQ a.Ratio))), .d (.int b), r] ∧ 0 < b ∧ b ∣ L ∧ ∀ q ∈ qs.take i, (q.den : Int) ∣ b, ⟨1, _, rfl, by decide, Int.one_dvd L, fun q hq => by simp at hq⟩, fun i d δ' hd hI => ?_, fun δ' hI => ?_⟩
  · obtain ⟨b, r, rfl, b0, bL, hb⟩ := hI
    rw [List.getElem?_map] at hd
    obtain ⟨p, hp', rfl⟩ := Option.map_eq_some_iff.mp hd
    have hm := List.mem_of_getElem? hp'
    have ht : qs.take (i + 1) = qs.take i ++ [p] := by rw [List.take_add_one, hp']; rfl
    have pd := hL p hm
    have d0 : (0 : Int) < (p.den : Int) := den_pos p
    repeat walk_at "wk"
    refine ite_dn (fun h0 => ?_) fun h0 => ?_
    · have ld : ((Int.lcm b (p.den : Int) : Nat) : Int) ∣ L := Int.coe_lcm_dvd bL pd
      have lp : 0 < Int.lcm b (p.den : Int) := Int.lcm_pos (Int.ne_of_gt b0) (Int.ne_of_gt d0)
      repeat walk_at "wk"
      refine wcb_lcm (sz_mono (zb b b0 bL) (by decide)) (sz_mono (zb _ d0 pd) (by decide)) (sz_mono (zb _ (by omega) ld) (by decide)) ?_
      repeat walk_at "wk"
      refine ⟨_, _, rfl, by omega, ld, fun q hq => ?_⟩
      rw [ht] at hq
      rcases List.mem_append.mp hq with hq | hq
      · exact Int.dvd_trans (hb q hq) (Int.dvd_lcm_left ..)
      · rw [List.mem_singleton.mp hq]
        exact Int.dvd_lcm_right ..
    · repeat walk_at "wk"
      refine ⟨_, _, rfl, b0, bL, fun q hq => ?_⟩
      rw [ht] at hq
      rcases List.mem_append.mp hq with hq | hq
      · exact hb q hq
      · rw [List.mem_singleton.mp hq]
        exact Int.dvd_of_emod_eq_zero h0
  · obtain ⟨b, r, rfl, b0, bL, hb⟩ := hI
    rw [List.length_map, List.take_length] at hb
    repeat walk_at "wk"
    exact q b b0 bL hb
theorem wcb_common {π : Po} {k : Rv → Prop} {E : XK} {C : Addr} {r : Rv} {qs : List Rat} {L : Int} (hf : fzA [r] = some [.d (.lst (qs.map (ratQ C)))]) (hl : qs.length ≤ 4000) (L0 : 0 < L) (zL : Sz 8000 L) (hL : ∀ q ∈ qs, (q.den : Int) ∣ L) (q : ∀ b : Int, 0 < b → b ∣ L → (∀ q ∈ qs, (q.den : Int) ∣ b) → k (.d (.int b))) :
    WCb π (fun vs H Q => spW false (bCommon C) vs H Q E) [r] k := wcb_W0 hf rfl ⟨qs, L, rfl, hl, L0, zL, hL, fun b h1 h2 h3 => ⟨fun z => (by cases z), q b h1 h2 h3⟩⟩
def bSum (C : Addr) (rs : List Rv) (k : Rv → Prop) : Prop := ∃ (ds : List D) (qs : List Rat) (L : Int), rs = [.d (.lst ds)] ∧ NumsQ C ds qs ∧ ds.length ≤ 4000 ∧ (∀ q ∈ qs, Sz 2000 q.num) ∧ 0 < L ∧ Sz 3900 L ∧ (∀ q ∈ qs, (q.den : Int) ∣ L) ∧ k (.d (ratQ C qs.sum))
theorem wcb_sum_of {π : Po} {k : Rv → Prop} {E : XK} {C : Addr} {r : Rv} {ds : List D} {qs : List Rat} {L : Int} (hf : fzA [r] = some [.d (.lst ds)]) (n : NumsQ C ds qs) (hl : ds.length ≤ 4000) (zq : ∀ q ∈ qs, Sz 2000 q.num) (L0 : 0 < L) (zL : Sz 3900 L) (hL : ∀ q ∈ qs, (q.den : Int) ∣ L) (q : k (.d (ratQ C qs.sum))) :
    WCb π (fun vs H Q => spW false (bSum C) vs H Q E) [r] k := wcb_W0 hf rfl ⟨ds, qs, L, rfl, n, hl, zq, L0, zL, hL, fun z => (by cases z), q⟩
theorem k_sum_of (T : Txt W.K W.mg a) : Cl W 5 "sum_of" (spW false (bSum a.Ratio)) := by
  refine cl_W T.d_sum_of sc_sum_of bd_sum_of (fun rs k ⟨_, _, _, h, _⟩ => by rw [h]; rfl) ?_
  refine body_W (n := 1) (m := 4) rfl (fun rs k ⟨_, _, _, h, _⟩ => by rw [h]; rfl) fun f cdv A outer s H E hr => ⟨_, (pss_cons (ps_setLc (i := 1) (own := [("number", 3)]) (g := (gName 3)) (tt := tYes) rfl sc_sum_of.nd rfl rfl (sw_true rfl rfl rfl (by decide +kernel)) (pi_listK (K := W.K) rfl (pv 0)) (blkOk_by (N := N_sum_of) (sc := defScope s_sum_of) (by decide +kernel)) (fun _ _ _ _ _ => (pg_name (i := 3) sc_sum_of.nd rfl (Or.inl rfl))) (fun _ _ _ _ _ => pts_nil) (fun _ _ _ _ _ => (pe_sm (sm_of T) hr (by decide) (pe_gn (v := .ref a.Ratio) (by rfl) T.o_Ratio.mg rfl) (pa_cons (pv 3) pa_nil)))) (pss_cons (ps_set (i := 2) sc_sum_of.nd rfl (Or.inr rfl) (pe_cl (k_common_bottom T) hr (by decide) rfl (pa_cons (pv 1) pa_nil))) (pss_one (ps_ret (pe_mak (m_Ratio2 T) hr (by decide) rfl (pa_cons (pe_callB (cr_sum rfl) (by rfl) T.b_sum (by decide +kernel) (pa_cons (pe_lc (own := [("ratio", 4)]) (g := (gName 4)) (tt := tYes) rfl sc_sum_of.nd (pi_listK (K := W.K) rfl (pv 1)) (blkOk_by (N := N_sum_of) (sc := defScope s_sum_of) (by decide +kernel)) (fun _ _ _ _ _ => (pg_name (i := 4) sc_sum_of.nd rfl (Or.inl rfl))) (fun _ _ _ _ _ => pts_nil) (fun _ _ _ _ _ => (pe_op op_mulU (pe_fldK (K := W.K) rfl (pv 4) rfl) (pe_op op_fdivU (pv 2) (pe_fldK (K := W.K) rfl (pv 4) rfl))))) pa_nil)) (pa_cons (pv 2) pa_nil))))))), fun π rs kr hp hB => ?_⟩
  obtain ⟨ds, qs, L, rfl, n, hl, zq, L0, zL, hL, q⟩ := hB
  dsimp only [uns, List.replicate, List.cons_append, List.nil_append]
  have cR := T.o_Ratio.cls
  have nB := T.n_Ratio_bottom
  have nT := T.n_Ratio_top
  have hlq := n.length
  repeat walk_at "wk"
  refine w_lc1 (j := 3) (by decide) (fun i _ x => ∀ q, qs[i]? = some q → x = ratQ a.Ratio q) (wi_list ?_)
  repeat walk_at "wk"
  refine ⟨_, rfl, hl, fun i d hd => ?_, fun xs hx hp => ?_⟩
  · obtain ⟨p, hp, np⟩ := n.get hd
    dsimp only [List.map, wipeD, List.set]
    repeat walk_at "wk"
    refine wcb_of np (sz_mono (zq p (List.mem_of_getElem? hp)) (by decide)) ?_
    exact ⟨_, rfl, fun q hq => by rw [hp] at hq; cases hq; rfl⟩
  · have e : xs = qs.map (ratQ a.Ratio) := by
      apply List.ext_getElem?
      intro i
      rw [List.getElem?_map]
      rcases Nat.lt_or_ge i ds.length with h | h
      · have h2 : i < xs.length := by omega
        have h3 : i < qs.length := by omega
        rw [List.getElem?_eq_getElem h2, List.getElem?_eq_getElem h3, hp i _ _ (List.getElem?_eq_getElem h) (List.getElem?_eq_getElem h2) _ (List.getElem?_eq_getElem h3)]
        rfl
      · rw [List.getElem?_eq_none (by omega), List.getElem?_eq_none (by omega)]
        rfl
    subst e
    clear hp hx
    refine wg_new fun p => ?_
    dsimp only [List.set]
    refine ws_frz (n := 1) rfl ?_
    dsimp only [List.set]
    repeat walk_at "wk"
    refine wcb_common rfl (by omega) L0 (sz_mono zL (by decide)) hL fun b b0 bL hb => ?_
    have zb : Sz 3900 b := sz_le zL (by
      have := Int.le_of_dvd L0 bL
      omega)
    repeat walk_at "wk"
    refine w_ratio2 ?_
    repeat walk_at "wk"
    refine w_lcM (j := 4) (by decide) (fun d => match d with | .obj _ [(_, .int t), (_, .int u)] => .int (t * (b / u)) | d => d) (wi_list ?_)
    repeat walk_at "wk"
    refine ⟨_, rfl, by rw [List.length_map]; omega, fun d hd => ?_, ?_⟩
    · obtain ⟨p, hm, rfl⟩ := List.mem_map.mp hd
      have zd : Sz 3900 (p.den : Int) := sz_le zb (by
        have := Int.le_of_dvd b0 (hb p hm)
        have := den_pos p
        omega)
      dsimp only [List.map, wipeD, List.set]
      repeat walk_at "wk"
      · rfl
      · exact wide_div (den_pos p) zd (by decide) (by decide)
      · exact cmul_sz (zq p hm) (sz_ediv (y := (p.den : Int)) zb)
    · rw [List.map_map]
      repeat walk_at "wk"
      refine wcb_sum (ns := qs.map fun q => q.num * (b / (q.den : Int))) (by rw [List.map_map]; rfl) ?_
      repeat walk_at "wk"
      refine ⟨_, _, rfl, Int.ne_of_gt b0, sz_mono (n := 5900 + 12) (sz_sum (m := 12) (fun x hx => ?_) (by rw [List.length_map]; omega)) (by decide), sz_mono zb (by decide), out_d ?_⟩
      · obtain ⟨p, hm, rfl⟩ := List.mem_map.mp hx
        exact sz_mono (sz_mul (zq p hm) (sz_ediv (y := (p.den : Int)) zb)) (by decide)
      · rw [sum_q (Int.ne_of_gt b0) hb]
        exact q
end Lw
namespace Dt
open PySem PySem.Spec PyProof.Rows L2 Ly
def setB (kd : List (Key × D)) (ss : List Str) : Bool := !ss.isEmpty && (ss.all (fun s => (valD kd (.inr s)).isSome) && decide (nd ss = ss.length))
end Dt
namespace Lw
open PySem PySem.Spec PyProof.Rows L2 Ly Dt
local macro_rules | `(tactic| walk_at "wk") => `(tactic| first
  | ((with_reducible refine' w_var ?hv ?hn ?_); (case hv => exact rfl); (case hn => (intro z; cases z)))
  | with_reducible refine w_int ?_
  | with_reducible refine w_str ?_
  | with_reducible refine w_op ?_
  | with_reducible refine wa_cons ?_
  | with_reducible refine wa_nil ?_
  | with_reducible refine w_reprL ?_
  | with_reducible refine w_isi2 ?_
  | with_reducible refine w_cb ?_
  | with_reducible refine w_call ?_
  | ((with_reducible refine' ws_retV ?hv ?_); (case hv => exact rfl))
  | with_reducible refine ws_seq ?_
  | with_reducible refine ws_asg ?_
  | with_reducible refine ws_ret ?_
  | with_reducible refine ws_if ?_
  | with_reducible refine ws_next ?_
  | ((with_reducible refine' ws_append ?hv ?hz ?_); (case hv => exact rfl); rotate_left)
  | with_reducible refine ws_drop ?_
  | with_reducible refine ws_retN ?_
  | ((with_reducible refine wg_d ?_); dsimp only [List.set])
  | ((with_reducible refine wg_raw ?_); dsimp only [List.set])
  | ((with_reducible refine wg_E ?_))
  | ((with_reducible refine' we_tup ?hl ?_); (case hl => exact rfl))
  | with_reducible refine wes_cons ?_
  | with_reducible refine wes_nil ?_
  | ((with_reducible refine we_name ?_); dsimp only [List.set])
  | with_reducible refine out_d ?_
  | with_reducible refine out_new ?_
  | with_reducible refine ex_bl ?_
  | with_reducible refine ite_t ?_
  | ((with_reducible refine ex_fzd ?_); dsimp only [List.set, List.nil_append, List.cons_append])
  | ((with_reducible refine ex_fzn ?_); dsimp only [List.set, List.nil_append, List.cons_append])
  | with_reducible refine ite_nt ?_
  | with_reducible refine ite_nf ?_
  | with_reducible refine ite_f ?_
  | with_reducible refine wt_tb ?_
  | with_reducible refine wt_test ?_
  | with_reducible refine wt_and ?_
  | with_reducible refine wt_or ?_
  | with_reducible refine wt_not ?_
  | with_reducible refine w_andV ?_
  | with_reducible refine w_orV ?_
  | with_reducible refine w_notV ?_
  | with_reducible refine w_if ?_
  | with_reducible refine w_bl ?_
  | with_reducible refine w_non ?_
  | with_reducible refine w_ty ?_
  | with_reducible refine w_ref ?_
  | with_reducible refine w_un ?_
  | ((with_reducible refine w_tup ?_); skip)
  | ((with_reducible refine w_lst ?_); skip)
  | ((with_reducible refine' Exists.intro _ (And.intro ?hf (And.intro ?hl ?_))); (case hf => exact rfl); (case hl => exact Nat.le_of_ble_eq_true rfl))
  | with_reducible refine w_fld ?_
  | ((with_reducible refine' fld_of ?ho ?c ?n ?l ?_); (case ho => exact rfl); (case c => assumption); (case n => with_reducible assumption); (case l => exact rfl))
  | with_reducible refine wp_top ?_
  | with_reducible refine wp_bot ?_
  | with_reducible refine w_prop ?_
  | with_reducible refine w_meth ?_
  | with_reducible refine w_smeth ?_
  | with_reducible refine wop_addI ?_
  | with_reducible refine wop_subI ?_
  | ((with_reducible refine' wop_mulI ?c ?_); rotate_left)
  | ((with_reducible refine' wop_fdI ?c ?_); rotate_left)
  | with_reducible refine wop_mdI (by first | decide | assumption) ?_
  | ((with_reducible refine' wop_mdI ?c ?_); rotate_left)
  | ((with_reducible refine' wop_I0 ?e ?_); (case e => exact rfl))
  | ((with_reducible refine' wop_ixT ?e ?_); (case e => exact rfl))
  | ((with_reducible refine' wcb_lenL ?e ?_); (case e => exact rfl))
  | with_reducible refine wcb_lenT ?_
  | ((with_reducible refine' wop_fdX ?c ?_); rotate_left)
  | ((with_reducible refine' wun_U ?e ?_); (case e => exact rfl))
  | with_reducible refine wop_eqI ?_
  | with_reducible refine wop_neI ?_
  | with_reducible refine wop_eqS ?_
  | with_reducible refine wop_neS ?_
  | with_reducible refine wop_isN ?_
  | with_reducible refine wop_notN ?_
  | ((with_reducible refine' wop_inS ?e ?_); (case e => exact rfl))
  | ((with_reducible refine' wop_niS ?e ?_); (case e => exact rfl))
  | with_reducible refine wop_inST ?_
  | with_reducible refine wcb_gcd ?_
  | with_reducible refine wcb_abs ?_
  | with_reducible refine wcb_max2 ?_
  | with_reducible refine wcb_min2 ?_
  | with_reducible refine wcb_int ?_
  | ((with_reducible refine' wcb_isi (b := true) ?ho ?hb ?_); (case ho => exact rfl); (case hb => (dsimp only [tyN]; decide +kernel)))
  | ((with_reducible refine' wcb_isi (b := false) ?ho ?hb ?_); (case ho => exact rfl); (case hb => (dsimp only [tyN]; decide +kernel)))
  | ((with_reducible refine' wcb_listOf ?e ?_); (case e => exact rfl))
  | with_reducible refine wcb_listOfT ?_
  | ((with_reducible refine' wcb_tupOf ?e ?_); (case e => exact rfl))
  | with_reducible refine w_chain ?_
  | with_reducible refine wcb_strS ?_
  | ((with_reducible refine' wcb_lenD ?e ?_); (case e => exact rfl))
  | ((with_reducible refine' wcb_listD ?e ?_); (case e => exact rfl))
  | with_reducible refine w_dnewK ?_
  | with_reducible refine w_dget ?_
  | with_reducible refine w_din ?_
  | with_reducible refine w_dni ?_
  | with_reducible refine w_lenSet ?_
  | with_reducible refine w_listVals ?_
  | with_reducible refine w_chain ?_
  | ((with_reducible refine' wt_yes ?_)))
variable {W : Wd} {a : Ad}
def bSet (rs : List Rv) (k : Rv → Prop) : Prop := ∃ x ss kd, rs = [.d x, .d (.dct kd)] ∧ NamesOf x ss ∧ (∀ kd, x ≠ .dct kd) ∧ ss.length < 4000 ∧ k (.d (.bl (setB kd ss)))
theorem k_is_set_of (T : Txt W.K W.mg a) : Cl W 1 "is_set_of" (spW false bSet) := by
  refine cl_W T.d_is_set_of sc_is_set_of bd_is_set_of (fun rs k ⟨_, _, _, h, _⟩ => by rw [h]; rfl) ?_
  refine body_or (B1 := fun rs k => ∃ (ss : List Str) (kd : List (Key × D)), rs = [.d (.lst (ss.map D.str)), .d (.dct kd)] ∧ ss.length < 4000 ∧ k (.d (.bl (setB kd ss))))
    (B2 := fun rs k => ∃ (ss : List Str) (kd : List (Key × D)), rs = [.d (.tup (ss.map D.str)), .d (.dct kd)] ∧ ss.length < 4000 ∧ k (.d (.bl (setB kd ss)))) (fun rs k ⟨x, ss, kd, h, n, nn, l, q⟩ => ?_) ?_ ?_
  · cases n with
    | lst => exact .inl ⟨ss, kd, h, l, q⟩
    | tup => exact .inr ⟨ss, kd, h, l, q⟩
    | dct e => exact (nn _ rfl).elim
  · refine body_W (n := 2) (m := 1) rfl (fun rs k ⟨_, _, h, _⟩ => by rw [h]; rfl) fun f cdv A outer s H E hr => ⟨_, (pss_cons (ps_if (PW.pt (pw_or (pt_not (pt_val (pe_callB (r := rIsiT W.K) call_isiT (by rfl) T.b_isinstance (by decide +kernel) (pa_cons (pv 0) (pa_cons (pe_tup (pa_cons (pe_bltn (by rfl) T.b_list (by decide +kernel) (v := .ty "list") rfl) (pa_cons (pe_bltn (by rfl) T.b_tuple (by decide +kernel) (v := .ty "tuple") rfl) pa_nil))) pa_nil))))) (pw_or1 (pt_cmpR (r := rEqU W.K) (op_eqU hr.units) (pe_callB (r := Ly.rLen W.K) call_lenU (by rfl) T.b_len (by decide +kernel) (pa_cons (pv 0) pa_nil)) pe_int (nomark _))))) (pss_one (ps_ret pe_bl)) pss_nil) (pss_one (ps_ret (pe_and (pe_callB (r := rAll W.K) (cr_all rfl) (by rfl) T.b_all (by decide +kernel) (pa_cons (pe_lc (own := [("name", 2)]) (g := (gName 2)) (tt := tYes) rfl sc_is_set_of.nd (pi_listK (K := W.K) rfl (pv 0)) (blkOk_by (N := N_is_set_of) (sc := defScope s_is_set_of) (by decide +kernel)) (fun _ _ _ _ _ => (pg_name (i := 2) sc_is_set_of.nd rfl (Or.inl rfl))) (fun _ _ _ _ _ => pts_nil) (fun _ _ _ _ _ => (pe_and (pe_callB (r := rIsi W.K) call_isi (by rfl) T.b_isinstance (by decide +kernel) (pa_cons (pv 2) (pa_cons (pe_bltn (by rfl) T.b_str (by decide +kernel) (v := .ty "str") rfl) pa_nil))) (pe_one (pe_cmp (pc_din (room_u1 hr) (pv 2) (pv 1))))))) pa_nil)) (pe_one (pe_cmpR (r := rEqU W.K) (op_eqU hr.units) (pe_lenSetK (K := W.K) rfl rfl (by rfl) T.b_len (by rfl) T.b_set (pv 0)) (pe_callB (r := Ly.rLen W.K) call_lenU (by rfl) T.b_len (by decide +kernel) (pa_cons (pv 0) pa_nil)) (nomark _))))))), fun π rs kr hp hB => ?_⟩
    obtain ⟨ss, kd, rfl, l, q⟩ := hB
    dsimp only [uns, List.replicate, List.cons_append, List.nil_append]
    repeat walk_at "wk"
    refine ⟨_, true, rfl, kitD_ty (b1 := true) (b2 := false) rfl (by dsimp only [tyN]; decide +kernel) (by dsimp only [tyN]; decide +kernel), ?_⟩
    repeat walk_at "wk"
    refine ite_d (fun h0 => ?_) fun h0 => ?_
    · have e : ss = [] := by
        rw [List.length_map] at h0
        exact List.length_eq_zero_iff.mp (by omega)
      subst e
      repeat walk_at "wk"
      exact q
    · have e : ss.isEmpty = false := by
        cases ss with
        | nil => exact (h0 rfl).elim
        | cons => rfl
      repeat walk_at "wk"
      refine w_lcM (j := 2) (by decide) (fun d => match d with | .str s => .bl (valD kd (.inr s)).isSome | _ => .bl false) (wi_list ?_)
      repeat walk_at "wk"
      refine ⟨_, rfl, by rw [List.length_map]; omega, fun d hd => ?_, ?_⟩
      · obtain ⟨s, _, rfl⟩ := List.mem_map.mp hd
        dsimp only [List.map, wipeD, List.set]
        repeat walk_at "wk"
        exact ⟨_, _, _, rfl, rfl, rfl, rfl⟩
      · rw [List.map_map]
        repeat walk_at "wk"
        refine wcb_all (bs := ss.map fun s => (valD kd (.inr s)).isSome) (by rw [List.map_map]; rfl) ?_
        repeat walk_at "wk"
        rw [List.all_map]
        unfold setB at q
        rw [e] at q
        refine ite_b (fun hb => ?_) fun hb => ?_
        · repeat walk_at "wk"
          refine ⟨ss, .inl rfl, l, ?_⟩
          repeat walk_at "wk"
          have e1 : decide ((nd ss : Int) = ((ss.map D.str).length : Int)) = decide (nd ss = ss.length) := by
            rw [List.length_map]
            simp only [Int.ofNat_inj]
          rw [e1]
          rw [show (ss.all fun s => (valD kd (.inr s)).isSome) = true from hb] at q
          exact q
        · rw [show (ss.all fun s => (valD kd (.inr s)).isSome) = false from hb] at q
          exact out_d q
  · refine body_W (n := 2) (m := 1) rfl (fun rs k ⟨_, _, h, _⟩ => by rw [h]; rfl) fun f cdv A outer s H E hr => ⟨_, (pss_cons (ps_if (PW.pt (pw_or (pt_not (pt_val (pe_callB (r := rIsiT W.K) call_isiT (by rfl) T.b_isinstance (by decide +kernel) (pa_cons (pv 0) (pa_cons (pe_tup (pa_cons (pe_bltn (by rfl) T.b_list (by decide +kernel) (v := .ty "list") rfl) (pa_cons (pe_bltn (by rfl) T.b_tuple (by decide +kernel) (v := .ty "tuple") rfl) pa_nil))) pa_nil))))) (pw_or1 (pt_cmpR (r := rEqU W.K) (op_eqU hr.units) (pe_callB (r := Ly.rLen W.K) call_lenU (by rfl) T.b_len (by decide +kernel) (pa_cons (pv 0) pa_nil)) pe_int (nomark _))))) (pss_one (ps_ret pe_bl)) pss_nil) (pss_one (ps_ret (pe_and (pe_callB (r := rAll W.K) (cr_all rfl) (by rfl) T.b_all (by decide +kernel) (pa_cons (pe_lc (own := [("name", 2)]) (g := (gName 2)) (tt := tYes) rfl sc_is_set_of.nd (pi_tupK (K := W.K) rfl (pv 0)) (blkOk_by (N := N_is_set_of) (sc := defScope s_is_set_of) (by decide +kernel)) (fun _ _ _ _ _ => (pg_name (i := 2) sc_is_set_of.nd rfl (Or.inl rfl))) (fun _ _ _ _ _ => pts_nil) (fun _ _ _ _ _ => (pe_and (pe_callB (r := rIsi W.K) call_isi (by rfl) T.b_isinstance (by decide +kernel) (pa_cons (pv 2) (pa_cons (pe_bltn (by rfl) T.b_str (by decide +kernel) (v := .ty "str") rfl) pa_nil))) (pe_one (pe_cmp (pc_din (room_u1 hr) (pv 2) (pv 1))))))) pa_nil)) (pe_one (pe_cmpR (r := rEqU W.K) (op_eqU hr.units) (pe_lenSetK (K := W.K) rfl rfl (by rfl) T.b_len (by rfl) T.b_set (pv 0)) (pe_callB (r := Ly.rLen W.K) call_lenU (by rfl) T.b_len (by decide +kernel) (pa_cons (pv 0) pa_nil)) (nomark _))))))), fun π rs kr hp hB => ?_⟩
    obtain ⟨ss, kd, rfl, l, q⟩ := hB
    dsimp only [uns, List.replicate, List.cons_append, List.nil_append]
    repeat walk_at "wk"
    refine ⟨_, true, rfl, kitD_ty (b1 := false) (b2 := true) rfl (by dsimp only [tyN]; decide +kernel) (by dsimp only [tyN]; decide +kernel), ?_⟩
    repeat walk_at "wk"
    refine ite_d (fun h0 => ?_) fun h0 => ?_
    · have e : ss = [] := by
        rw [List.length_map] at h0
        exact List.length_eq_zero_iff.mp (by omega)
      subst e
      repeat walk_at "wk"
      exact q
    · have e : ss.isEmpty = false := by
        cases ss with
        | nil => exact (h0 rfl).elim
        | cons => rfl
      repeat walk_at "wk"
      refine w_lcM (j := 2) (by decide) (fun d => match d with | .str s => .bl (valD kd (.inr s)).isSome | _ => .bl false) (wi_tup ?_)
      repeat walk_at "wk"
      refine ⟨_, rfl, by rw [List.length_map]; omega, fun d hd => ?_, ?_⟩
      · obtain ⟨s, _, rfl⟩ := List.mem_map.mp hd
        dsimp only [List.map, wipeD, List.set]
        repeat walk_at "wk"
        exact ⟨_, _, _, rfl, rfl, rfl, rfl⟩
      · rw [List.map_map]
        repeat walk_at "wk"
        refine wcb_all (bs := ss.map fun s => (valD kd (.inr s)).isSome) (by rw [List.map_map]; rfl) ?_
        repeat walk_at "wk"
        rw [List.all_map]
        unfold setB at q
        rw [e] at q
        refine ite_b (fun hb => ?_) fun hb => ?_
        · repeat walk_at "wk"
          refine ⟨ss, .inr rfl, l, ?_⟩
          repeat walk_at "wk"
          have e1 : decide ((nd ss : Int) = ((ss.map D.str).length : Int)) = decide (nd ss = ss.length) := by
            rw [List.length_map]
            simp only [Int.ofNat_inj]
          rw [e1]
          rw [show (ss.all fun s => (valD kd (.inr s)).isSome) = true from hb] at q
          exact q
        · rw [show (ss.all fun s => (valD kd (.inr s)).isSome) = false from hb] at q
          exact out_d q
theorem wcb_set {π : Po} {k : Rv → Prop} {E : XK} {r1 r2 : Rv} {x : D} {ss : List Str} {kd : List (Key × D)} (hf : fzA [r1, r2] = some [.d x, .d (.dct kd)]) (n : NamesOf x ss) (nn : ∀ kd, x ≠ .dct kd) (hl : ss.length < 4000) (q : k (.d (.bl (setB kd ss)))) :
    WCb π (fun vs H Q => spW false bSet vs H Q E) [r1, r2] k := wcb_W0 hf rfl ⟨x, ss, kd, rfl, n, nn, hl, fun z => (by cases z), q⟩
def bTask (C : Addr) (rs : List Rv) (k : Rv → Prop) : Prop := ∃ d p x ss kd, rs = [.d (.tup [d, x]), .d (.dct kd)] ∧ NumQ C d p ∧ NamesOf x ss ∧ (∀ kd, x ≠ .dct kd) ∧ ss.length < 4000 ∧ k (.d (.bl (decide (0 ≤ p.num) && setB kd ss)))
theorem k_is_task (T : Txt W.K W.mg a) : Cl W 4 "is_task" (spW false (bTask a.Ratio)) := by
  refine cl_W T.d_is_task sc_is_task bd_is_task (fun rs k ⟨_, _, _, _, _, h, _⟩ => by rw [h]; rfl) ?_
  refine body_W (n := 2) (m := 2) rfl (fun rs k ⟨_, _, _, _, _, h, _⟩ => by rw [h]; rfl) fun f cdv A outer s H E hr => ⟨_, (pss_cons (ps_if (PW.pt (pw_or (pt_not (pt_val (pe_callB (r := rIsi W.K) call_isi (by rfl) T.b_isinstance (by decide +kernel) (pa_cons (pv 0) (pa_cons (pe_bltn (by rfl) T.b_tuple (by decide +kernel) (v := .ty "tuple") rfl) pa_nil))))) (pw_or1 (pt_cmpR (r := rNeU W.K) (op_neU hr.units) (pe_callB (r := Ly.rLen W.K) call_lenU (by rfl) T.b_len (by decide +kernel) (pa_cons (pv 0) pa_nil)) pe_int (nomark _))))) (pss_one (ps_ret pe_bl)) pss_nil) (pss_cons (ps_asg (pv 0) (pg_tupK (K := W.K) (n := 2) rfl rfl (pgs_cons (pg_name (i := 2) sc_is_task.nd rfl (Or.inl rfl)) (pgs_cons (pg_name (i := 3) sc_is_task.nd rfl (Or.inl rfl)) pgs_nil)))) (pss_one (ps_ret (pe_and (pe_cl (k_is_amount T) hr (by decide) rfl (pa_cons (pv 2) pa_nil)) (pe_one (pe_cl (k_is_set_of T) hr (by decide) rfl (pa_cons (pv 3) (pa_cons (pv 1) pa_nil))))))))), fun π rs kr hp hB => ?_⟩
  obtain ⟨d, p, x, ss, kd, rfl, n, nm, nn, l, q⟩ := hB
  dsimp only [uns, List.replicate, List.cons_append, List.nil_append]
  repeat walk_at "wk"
  refine ite_dn (fun h0 => ?_) fun h0 => ?_
  · exact (h0 (by rfl)).elim
  · repeat walk_at "wk"
    refine wcb_W0 (rs := [.d d]) rfl rfl ⟨d, p, rfl, n, fun z => (by cases z), ?_⟩
    repeat walk_at "wk"
    refine ite_d (fun h1 => ?_) fun h1 => ?_
    · rw [decide_eq_true h1] at q
      repeat walk_at "wk"
      exact wcb_set rfl nm nn l (out_d q)
    · rw [decide_eq_false h1] at q
      exact out_d q
end Lw
namespace Dt
open PySem PySem.Spec PyProof.Rows L2 Ly
structure Tk where
  nm : Str
  d : D
  q : Rat
  x : D
  hs : List Str
structure TkOk (C : Addr) (sv : List Str) (t : Tk) : Prop where
  num : NumQ C t.d t.q
  pos : 0 ≤ t.q.num
  sz : Sz 2000 t.q.num
  nam : NamesOf t.x t.hs
  nod : ∀ kd, t.x ≠ .dct kd
  ne : t.hs ≠ []
  nd : t.hs.Nodup
  sub : ∀ h ∈ t.hs, h ∈ sv
  lt : t.hs.length ≤ 12
def spD (sp : List (Str × Int)) : List (Key × D) := sp.map fun p => (.inr p.1, .int p.2)
def tkD (tk : List Tk) : List (Key × D) := tk.map fun t => (.inr t.nm, .tup [t.d, t.x])
structure SpOk (sp : List (Str × Int)) : Prop where
  ne : sp ≠ []
  nd : (sp.map (·.1)).Nodup
  nm : ∀ p ∈ sp, nmB p.1 = true
  lo : ∀ p ∈ sp, 1 ≤ p.2
  hi : ∀ p ∈ sp, p.2 ≤ 1000
  lt : sp.length ≤ 12
structure TksOk (C : Addr) (sv : List Str) (tk : List Tk) : Prop where
  nd : (tk.map (·.nm)).Nodup
  nm : ∀ t ∈ tk, nmB t.nm = true
  ok : ∀ t ∈ tk, TkOk C sv t
  lt : tk.length ≤ 24
theorem spD_keys (sp : List (Str × Int)) : (spD sp).map (·.1) = (sp.map (·.1)).map Sum.inr := by
  unfold spD
  rw [List.map_map, List.map_map]
  rfl
theorem tkD_keys (tk : List Tk) : (tkD tk).map (·.1) = (tk.map (·.nm)).map Sum.inr := by
  unfold tkD
  rw [List.map_map, List.map_map]
  rfl
theorem inr_nodup {ss : List Str} (h : ss.Nodup) : (ss.map (Sum.inr : Str → Key)).Nodup := by
  unfold List.Nodup
  rw [List.pairwise_map]
  exact List.Pairwise.imp (fun hab e => hab (Sum.inr.inj e)) h
theorem spD_val {sp : List (Str × Int)} (h : SpOk sp) {p : Str × Int} (hp : p ∈ sp) : valD (spD sp) (.inr p.1) = some (.int p.2) :=
  valD_mem (by rw [spD_keys]; exact inr_nodup h.nd) (List.mem_map.mpr ⟨p, hp, rfl⟩)
theorem tkD_val {C : Addr} {sv : List Str} {tk : List Tk} (h : TksOk C sv tk) {t : Tk} (hp : t ∈ tk) : valD (tkD tk) (.inr t.nm) = some (.tup [t.d, t.x]) :=
  valD_mem (by rw [tkD_keys]; exact inr_nodup h.nd) (List.mem_map.mpr ⟨t, hp, rfl⟩)
theorem nmB_len {x : Str} (h : nmB x = true) : x.length ≤ sizeLine := by
  unfold nmB at h
  rw [Bool.and_eq_true, decide_eq_true_eq] at h
  exact Nat.le_trans h.1 (by decide)
theorem setB_ok {C : Addr} {sp : List (Str × Int)} {t : Tk} (h : TkOk C (sp.map (·.1)) t) : setB (spD sp) t.hs = true := by
  unfold setB
  have e : t.hs.isEmpty = false := by
    cases hh : t.hs with
    | nil => exact (h.ne hh).elim
    | cons => rfl
  rw [e, decide_eq_true (nd_nodup h.nd)]
  simp only [Bool.not_false, Bool.true_and, Bool.and_true, List.all_eq_true]
  intro s hs
  rw [valD_some, spD_keys]
  exact List.mem_map.mpr ⟨s, h.sub s hs, rfl⟩
theorem filt_none {α : Type} (l : List α) : l.filter (fun _ => false) = [] := by
  induction l with
  | nil => rfl
  | cons x l ih => rw [List.filter_cons, if_neg Bool.false_ne_true, ih]
end Dt
namespace Lw
open PySem PySem.Spec PyProof.Rows L2 Ly Dt
local macro_rules | `(tactic| walk_at "wk") => `(tactic| first
  | ((with_reducible refine' w_var ?hv ?hn ?_); (case hv => exact rfl); (case hn => (intro z; cases z)))
  | with_reducible refine w_int ?_
  | with_reducible refine w_str ?_
  | with_reducible refine w_op ?_
  | with_reducible refine wa_cons ?_
  | with_reducible refine wa_nil ?_
  | with_reducible refine w_reprL ?_
  | with_reducible refine w_isi2 ?_
  | with_reducible refine w_cb ?_
  | with_reducible refine w_call ?_
  | ((with_reducible refine' ws_retV ?hv ?_); (case hv => exact rfl))
  | with_reducible refine ws_seq ?_
  | with_reducible refine ws_asg ?_
  | with_reducible refine ws_ret ?_
  | with_reducible refine ws_if ?_
  | with_reducible refine ws_next ?_
  | ((with_reducible refine' ws_append ?hv ?hz ?_); (case hv => exact rfl); rotate_left)
  | with_reducible refine ws_drop ?_
  | with_reducible refine ws_retN ?_
  | ((with_reducible refine wg_d ?_); dsimp only [List.set])
  | ((with_reducible refine wg_raw ?_); dsimp only [List.set])
  | ((with_reducible refine wg_E ?_))
  | ((with_reducible refine' we_tup ?hl ?_); (case hl => exact rfl))
  | with_reducible refine wes_cons ?_
  | with_reducible refine wes_nil ?_
  | ((with_reducible refine we_name ?_); dsimp only [List.set])
  | with_reducible refine out_d ?_
  | with_reducible refine out_new ?_
  | with_reducible refine ex_bl ?_
  | with_reducible refine ite_t ?_
  | ((with_reducible refine ex_fzd ?_); dsimp only [List.set, List.nil_append, List.cons_append])
  | ((with_reducible refine ex_fzn ?_); dsimp only [List.set, List.nil_append, List.cons_append])
  | with_reducible refine ite_nt ?_
  | with_reducible refine ite_nf ?_
  | with_reducible refine ite_f ?_
  | with_reducible refine wt_tb ?_
  | with_reducible refine wt_test ?_
  | with_reducible refine wt_and ?_
  | with_reducible refine wt_or ?_
  | with_reducible refine wt_not ?_
  | with_reducible refine w_andV ?_
  | with_reducible refine w_orV ?_
  | with_reducible refine w_notV ?_
  | with_reducible refine w_if ?_
  | with_reducible refine w_bl ?_
  | with_reducible refine w_non ?_
  | with_reducible refine w_ty ?_
  | with_reducible refine w_ref ?_
  | with_reducible refine w_un ?_
  | ((with_reducible refine w_tup ?_); skip)
  | ((with_reducible refine w_lst ?_); skip)
  | ((with_reducible refine' Exists.intro _ (And.intro ?hf (And.intro ?hl ?_))); (case hf => exact rfl); (case hl => exact Nat.le_of_ble_eq_true rfl))
  | with_reducible refine w_fld ?_
  | ((with_reducible refine' fld_of ?ho ?c ?n ?l ?_); (case ho => exact rfl); (case c => assumption); (case n => with_reducible assumption); (case l => exact rfl))
  | with_reducible refine wp_top ?_
  | with_reducible refine wp_bot ?_
  | with_reducible refine w_prop ?_
  | with_reducible refine w_meth ?_
  | with_reducible refine w_smeth ?_
  | with_reducible refine wop_addI ?_
  | with_reducible refine wop_subI ?_
  | ((with_reducible refine' wop_mulI ?c ?_); rotate_left)
  | ((with_reducible refine' wop_fdI ?c ?_); rotate_left)
  | with_reducible refine wop_mdI (by first | decide | assumption) ?_
  | ((with_reducible refine' wop_mdI ?c ?_); rotate_left)
  | ((with_reducible refine' wop_I0 ?e ?_); (case e => exact rfl))
  | ((with_reducible refine' wop_ixT ?e ?_); (case e => exact rfl))
  | ((with_reducible refine' wcb_lenL ?e ?_); (case e => exact rfl))
  | with_reducible refine wcb_lenT ?_
  | ((with_reducible refine' wop_fdX ?c ?_); rotate_left)
  | ((with_reducible refine' wun_U ?e ?_); (case e => exact rfl))
  | with_reducible refine wop_eqI ?_
  | with_reducible refine wop_neI ?_
  | with_reducible refine wop_eqS ?_
  | with_reducible refine wop_neS ?_
  | with_reducible refine wop_isN ?_
  | with_reducible refine wop_notN ?_
  | ((with_reducible refine' wop_inS ?e ?_); (case e => exact rfl))
  | ((with_reducible refine' wop_niS ?e ?_); (case e => exact rfl))
  | with_reducible refine wop_inST ?_
  | with_reducible refine wcb_gcd ?_
  | with_reducible refine wcb_abs ?_
  | with_reducible refine wcb_max2 ?_
  | with_reducible refine wcb_min2 ?_
  | with_reducible refine wcb_int ?_
  | ((with_reducible refine' wcb_isi (b := true) ?ho ?hb ?_); (case ho => exact rfl); (case hb => (dsimp only [tyN]; decide +kernel)))
  | ((with_reducible refine' wcb_isi (b := false) ?ho ?hb ?_); (case ho => exact rfl); (case hb => (dsimp only [tyN]; decide +kernel)))
  | ((with_reducible refine' wcb_listOf ?e ?_); (case e => exact rfl))
  | with_reducible refine wcb_listOfT ?_
  | ((with_reducible refine' wcb_tupOf ?e ?_); (case e => exact rfl))
  | with_reducible refine w_chain ?_
  | with_reducible refine wcb_strS ?_
  | ((with_reducible refine' wcb_lenD ?e ?_); (case e => exact rfl))
  | ((with_reducible refine' wcb_listD ?e ?_); (case e => exact rfl))
  | with_reducible refine w_dnewK ?_
  | with_reducible refine w_dget ?_
  | with_reducible refine w_din ?_
  | with_reducible refine w_dni ?_
  | with_reducible refine w_lenSet ?_
  | with_reducible refine w_listVals ?_
  | with_reducible refine w_chain ?_
  | ((with_reducible refine' wt_yes ?_)))
variable {W : Wd} {a : Ad}
theorem wcb_name_dict {π : Po} {k : Rv → Prop} {E : XK} {r : Rv} {kd : List (Key × D)} {ss : List Str} (hf : fzA [r] = some [.d (.dct kd)]) (e : kd.map (·.1) = ss.map Sum.inr) (hl : ss.length ≤ 4000) (hn : ∀ s ∈ ss, nmB s = true) (q : k (.d (.bl true))) :
    WCb π (fun vs H Q => spW false (fun rs k => ∃ (kd : List (Key × D)) (ss : List Str), rs = [.d (.dct kd)] ∧ kd.map (·.1) = ss.map Sum.inr ∧ ss.length ≤ 4000 ∧ (∀ s ∈ ss, s.length ≤ sizeLine) ∧ k (.d (.bl (ss.all nmB)))) vs H Q E) [r] k :=
  wcb_W0 hf rfl ⟨kd, ss, rfl, e, hl, fun s hs => nmB_len (hn s hs), fun z => (by cases z), by rw [List.all_eq_true.mpr hn]; exact q⟩
theorem k_check_speeds (T : Txt W.K W.mg a) : Cl W 3 "check_speeds" (spW false fun rs k => ∃ sp : List (Str × Int), rs = [.d (.dct (spD sp))] ∧ SpOk sp ∧ k (.d .non)) := by
  refine cl_W T.d_check_speeds sc_check_speeds bd_check_speeds (fun rs k ⟨_, h, _⟩ => by rw [h]; rfl) ?_
  refine body_W (n := 1) (m := 2) rfl (fun rs k ⟨_, h, _⟩ => by rw [h]; rfl) fun f cdv A outer s H E hr => ⟨_, (pss_cons (ps_if (PW.pt (pw_or (pt_not (pt_val (pe_cl (k_is_name_dict T) hr (by decide) rfl (pa_cons (pv 0) pa_nil)))) (pw_or1 (pt_cmpR (r := rEqU W.K) (op_eqU hr.units) (pe_callB (r := rLenR) call_lenR (by rfl) T.b_len (by decide +kernel) (pa_cons (pv 0) pa_nil)) pe_int (nomark _))))) (pss_one ps_never) pss_nil) (pss_cons (ps_lockA (ps_setLc (i := 1) (own := [("server", 2)]) (g := (gName 2)) (tt := _) rfl sc_check_speeds.nd rfl rfl (sw_true rfl rfl rfl (by decide +kernel)) (pi_keys (pv 0)) (blkOk_by (N := N_check_speeds) (sc := defScope s_check_speeds) (by decide +kernel)) (fun _ _ _ _ _ => (pg_name (i := 2) sc_check_speeds.nd rfl (Or.inl rfl))) (fun _ _ _ _ _ => (pts_one (pt_not (pt_val (pe_cl (k_is_speed T) hr (by decide) rfl (pa_cons (pe_dget (room_u1 hr) (pv 0) (pv 2) (fun _ _ => rfl)) pa_nil)))))) (fun _ _ _ _ _ => (pv 2)))) (pss_one (ps_if (pt_cmpR op_gt (pe_callB (r := Ly.rLen W.K) call_lenU (by rfl) T.b_len (by decide +kernel) (pa_cons (pv 1) pa_nil)) pe_int (nomark _)) (pss_one ps_never) pss_nil)))), fun π rs kr hp hB => ?_⟩
  obtain ⟨sp, rfl, ok, q⟩ := hB
  dsimp only [uns, List.replicate, List.cons_append, List.nil_append]
  have hlen : sp.length ≤ 12 := ok.lt
  repeat walk_at "wk"
  refine wcb_name_dict rfl (spD_keys sp) (by rw [List.length_map]; omega) (fun s hs => ?_) ?_
  · obtain ⟨p, hp, rfl⟩ := List.mem_map.mp hs
    exact ok.nm p hp
  repeat walk_at "wk"
  refine ite_d (fun h0 => ?_) fun h0 => ?_
  · refine (ok.ne ?_).elim
    unfold spD at h0
    rw [List.length_map] at h0
    exact List.length_eq_zero_iff.mp (by omega)
  · repeat walk_at "wk"
    refine w_lcKF (j := 2) (by decide) (fun _ => false) (fun d => d) (std_var rfl) (by unfold spD; rw [List.length_map]; omega) (fun d hd => ?_) (fun d hd hp => nomatch hp) ?_
    · rw [keys_str (spD_keys sp)] at hd
      obtain ⟨s, hs, rfl⟩ := List.mem_map.mp hd
      obtain ⟨p, hp', rfl⟩ := List.mem_map.mp hs
      dsimp only [List.map, wipeD, List.set]
      repeat walk_at "wk"
      refine ⟨_, _, _, _, rfl, rfl, rfl, spD_val ok hp', ?_⟩
      repeat walk_at "wk"
      refine wcb_W0 (rs := [.d (.int p.2)]) rfl rfl ⟨p.2, rfl, fun z => (by cases z), ?_⟩
      rw [decide_eq_true (ok.lo p hp'), decide_eq_true (ok.hi p hp')]
      repeat walk_at "wk"
      rfl
    · rw [filt_none, List.map_nil]
      refine wg_new fun p => ?_
      dsimp only [List.set]
      repeat walk_at "wk"
      refine ite_d (fun h1 => ?_) fun h1 => ?_
      · exact (by simp at h1 : False).elim
      · repeat walk_at "wk"
        exact q
theorem k_check_tasks (T : Txt W.K W.mg a) : Cl W 5 "check_tasks" (spW false fun rs k => ∃ (sp : List (Str × Int)) (tk : List Tk), rs = [.d (.dct (tkD tk)), .d (.dct (spD sp))] ∧ TksOk a.Ratio (sp.map (·.1)) tk ∧ k (.d .non)) := by
  refine cl_W T.d_check_tasks sc_check_tasks bd_check_tasks (fun rs k ⟨_, _, h, _⟩ => by rw [h]; rfl) ?_
  refine body_W (n := 2) (m := 2) rfl (fun rs k ⟨_, _, h, _⟩ => by rw [h]; rfl) fun f cdv A outer s H E hr => ⟨_, (pss_cons (ps_if (pt_not (pt_val (pe_cl (k_is_name_dict T) hr (by decide) rfl (pa_cons (pv 0) pa_nil)))) (pss_one ps_never) pss_nil) (pss_cons (ps_lockA (ps_setLc (i := 2) (own := [("name", 3)]) (g := (gName 3)) (tt := _) rfl sc_check_tasks.nd rfl rfl (sw_true rfl rfl rfl (by decide +kernel)) (pi_keys (pv 0)) (blkOk_by (N := N_check_tasks) (sc := defScope s_check_tasks) (by decide +kernel)) (fun _ _ _ _ _ => (pg_name (i := 3) sc_check_tasks.nd rfl (Or.inl rfl))) (fun _ _ _ _ _ => (pts_one (pt_not (pt_val (pe_cl (k_is_task T) hr (by decide) rfl (pa_cons (pe_dget (room_u1 hr) (pv 0) (pv 3) (fun _ _ => rfl)) (pa_cons (pv 1) pa_nil))))))) (fun _ _ _ _ _ => (pv 3)))) (pss_one (ps_if (pt_cmpR op_gt (pe_callB (r := Ly.rLen W.K) call_lenU (by rfl) T.b_len (by decide +kernel) (pa_cons (pv 2) pa_nil)) pe_int (nomark _)) (pss_one ps_never) pss_nil)))), fun π rs kr hp hB => ?_⟩
  obtain ⟨sp, tk, rfl, ok, q⟩ := hB
  dsimp only [uns, List.replicate, List.cons_append, List.nil_append]
  have hlen : tk.length ≤ 24 := ok.lt
  repeat walk_at "wk"
  refine wcb_name_dict rfl (tkD_keys tk) (by rw [List.length_map]; omega) (fun s hs => ?_) ?_
  · obtain ⟨p, hp, rfl⟩ := List.mem_map.mp hs
    exact ok.nm p hp
  repeat walk_at "wk"
  refine w_lcKF (j := 3) (by decide) (fun _ => false) (fun d => d) (std_var rfl) (by unfold tkD; rw [List.length_map]; omega) (fun d hd => ?_) (fun d hd hp => nomatch hp) ?_
  · rw [keys_str (tkD_keys tk)] at hd
    obtain ⟨s, hs, rfl⟩ := List.mem_map.mp hd
    obtain ⟨t, ht, rfl⟩ := List.mem_map.mp hs
    have o := ok.ok t ht
    dsimp only [List.map, wipeD, List.set]
    repeat walk_at "wk"
    refine ⟨_, _, _, _, rfl, rfl, rfl, tkD_val ok ht, ?_⟩
    repeat walk_at "wk"
    refine wcb_W0 (rs := [.d (.tup [t.d, t.x]), .d (.dct (spD sp))]) rfl rfl ⟨t.d, t.q, t.x, t.hs, spD sp, rfl, o.num, o.nam, o.nod, by have := o.lt; omega, fun z => (by cases z), ?_⟩
    rw [setB_ok o, decide_eq_true o.pos]
    repeat walk_at "wk"
    rfl
  · rw [filt_none, List.map_nil]
    refine wg_new fun p => ?_
    dsimp only [List.set]
    repeat walk_at "wk"
    refine ite_d (fun h1 => ?_) fun h1 => ?_
    · exact (by simp at h1 : False).elim
    · repeat walk_at "wk"
      exact q
end Lw
namespace Dt
open PySem PySem.Spec PyProof.Rows L2 Ly
def spV (sp : List (Str × Int)) (s : Str) : Int := ((sp.find? fun p => decide (p.1 = s)).map (·.2)).getD 0
def tkAt (tk : List Tk) (s : Str) : Tk := (tk.find? fun t => decide (t.nm = s)).getD ⟨s, .non, 0, .non, []⟩
structure Yd where
  sp : List (Str × Int)
  tk : List (Str × Rat × List Str)
def norm (sp : List (Str × Int)) (tk : List Tk) : Yd := ⟨(sortN (sp.map (·.1))).map fun s => (s, spV sp s), (sortN (tk.map (·.nm))).map fun s => (s, (tkAt tk s).q, sortN (tkAt tk s).hs)⟩
def wkD (R : Addr) (tk : List (Str × Rat × List Str)) : List (Key × D) := tk.map fun t => (.inr t.1, ratQ R t.2.1)
def plD (tk : List (Str × Rat × List Str)) : List (Key × D) := tk.map fun t => (.inr t.1, .tup (t.2.2.map .str))
def paD (tk : List (Str × Rat × List Str)) : List (List Key × D) := tk.flatMap fun t => t.2.2.map fun p => ([.inr t.1, .inr p], .bl true)
def yardF (R : Addr) (y : Yd) : List (Str × D) := [("_speeds", .dct (spD y.sp)), ("_works", .dct (wkD R y.tk)), ("_places", .dct (plD y.tk)), ("_pairs", .dcT (paD y.tk))]
theorem tkAt_mem : ∀ {tk : List Tk} {t : Tk}, (tk.map (·.nm)).Nodup → t ∈ tk → tkAt tk t.nm = t
  | [], _, _, h => nomatch h
  | u :: tk, t, hn, h => by
    rw [List.map_cons, List.nodup_cons] at hn
    rcases List.mem_cons.mp h with rfl | h
    · simp [tkAt, List.find?_cons]
    · have hk : u.nm ≠ t.nm := fun z => hn.1 (by rw [z]; exact List.mem_map.mpr ⟨_, h, rfl⟩)
      have e1 : tkAt (u :: tk) t.nm = tkAt tk t.nm := by simp [tkAt, List.find?_cons, hk]
      rw [e1]
      exact tkAt_mem hn.2 h
theorem spV_mem : ∀ {sp : List (Str × Int)} {p : Str × Int}, (sp.map (·.1)).Nodup → p ∈ sp → spV sp p.1 = p.2
  | [], _, _, h => nomatch h
  | u :: tk, t, hn, h => by
    rw [List.map_cons, List.nodup_cons] at hn
    rcases List.mem_cons.mp h with rfl | h
    · simp [spV, List.find?_cons]
    · have hk : u.1 ≠ t.1 := fun z => hn.1 (by rw [z]; exact List.mem_map.mpr ⟨_, h, rfl⟩)
      have e1 : spV (u :: tk) t.1 = spV tk t.1 := by simp [spV, List.find?_cons, hk]
      rw [e1]
      exact spV_mem hn.2 h
theorem spD_at {sp : List (Str × Int)} (h : SpOk sp) {s : Str} (hs : s ∈ sp.map (·.1)) : valD (spD sp) (.inr s) = some (.int (spV sp s)) := by
  obtain ⟨p, hp, rfl⟩ := List.mem_map.mp hs
  rw [spD_val h hp, spV_mem h.nd hp]
theorem tk_at {C : Addr} {sv : List Str} {tk : List Tk} (h : TksOk C sv tk) {s : Str} (hs : s ∈ tk.map (·.nm)) : tkAt tk s ∈ tk ∧ (tkAt tk s).nm = s := by
  obtain ⟨p, hp, rfl⟩ := List.mem_map.mp hs
  rw [tkAt_mem h.nd hp]
  exact ⟨hp, rfl⟩
theorem tkD_at {C : Addr} {sv : List Str} {tk : List Tk} (h : TksOk C sv tk) {s : Str} (hs : s ∈ tk.map (·.nm)) : valD (tkD tk) (.inr s) = some (.tup [(tkAt tk s).d, (tkAt tk s).x]) := by
  obtain ⟨h1, h2⟩ := tk_at h hs
  have z := tkD_val h h1
  rw [h2] at z
  exact z
theorem valD_map {ss : List Str} {f : Str → D} (hn : ss.Nodup) {s : Str} (hs : s ∈ ss) : valD (ss.map fun s => ((.inr s : Key), f s)) (.inr s) = some (f s) :=
  valD_mem (by rw [List.map_map]; exact inr_nodup hn) (List.mem_map.mpr ⟨s, hs, rfl⟩)
theorem prs_len {g : Str → List Str} {m : Nat} : ∀ {ss : List Str}, (∀ s ∈ ss, (g s).length ≤ m) → (prs ss g).length ≤ ss.length * m
  | [], _ => Nat.zero_le _
  | s :: ss, h => by
    have h1 := h s List.mem_cons_self
    have h2 := prs_len (ss := ss) fun t ht => h t (List.mem_cons_of_mem _ ht)
    have e : prs (s :: ss) g = ((g s).map fun p => ([(.inr s : Key), .inr p], D.bl true)) ++ prs ss g := rfl
    rw [e, List.length_append, List.length_map, List.length_cons, Nat.add_mul, Nat.one_mul]
    omega
/-- what a yard is made of -/
def bYard (C R : Addr) (rs : List Rv) (k : D → Prop) : Prop := ∃ (sp : List (Str × Int)) (tk : List Tk) (z : D), rs = [.d (.dct (spD sp)), .d z] ∧ (z = .dct (tkD tk) ∨ z = .non ∧ tk = []) ∧ SpOk sp ∧ TksOk R (sp.map (·.1)) tk ∧ k (.obj C (yardF R (norm sp tk)))
end Dt
namespace Lw
open PySem PySem.Spec PyProof.Rows L2 Ly Dt
local macro_rules | `(tactic| walk_at "wk") => `(tactic| first
  | ((with_reducible refine' w_var ?hv ?hn ?_); (case hv => exact rfl); (case hn => (intro z; cases z)))
  | with_reducible refine w_int ?_
  | with_reducible refine w_str ?_
  | with_reducible refine w_op ?_
  | with_reducible refine wa_cons ?_
  | with_reducible refine wa_nil ?_
  | with_reducible refine w_reprL ?_
  | with_reducible refine w_isi2 ?_
  | with_reducible refine w_cb ?_
  | with_reducible refine w_call ?_
  | ((with_reducible refine' ws_retV ?hv ?_); (case hv => exact rfl))
  | with_reducible refine ws_seq ?_
  | with_reducible refine ws_asg ?_
  | with_reducible refine ws_ret ?_
  | with_reducible refine ws_if ?_
  | with_reducible refine ws_next ?_
  | ((with_reducible refine' ws_append ?hv ?hz ?_); (case hv => exact rfl); rotate_left)
  | with_reducible refine ws_drop ?_
  | with_reducible refine ws_retN ?_
  | ((with_reducible refine wg_d ?_); dsimp only [List.set])
  | ((with_reducible refine wg_raw ?_); dsimp only [List.set])
  | ((with_reducible refine wg_E ?_))
  | ((with_reducible refine' we_tup ?hl ?_); (case hl => exact rfl))
  | with_reducible refine wes_cons ?_
  | with_reducible refine wes_nil ?_
  | ((with_reducible refine we_name ?_); dsimp only [List.set])
  | with_reducible refine out_d ?_
  | with_reducible refine out_new ?_
  | with_reducible refine ex_bl ?_
  | with_reducible refine ite_t ?_
  | ((with_reducible refine ex_fzd ?_); dsimp only [List.set, List.nil_append, List.cons_append])
  | ((with_reducible refine ex_fzn ?_); dsimp only [List.set, List.nil_append, List.cons_append])
  | with_reducible refine ite_nt ?_
  | with_reducible refine ite_nf ?_
  | with_reducible refine ite_f ?_
  | with_reducible refine wt_tb ?_
  | with_reducible refine wt_test ?_
  | with_reducible refine wt_and ?_
  | with_reducible refine wt_or ?_
  | with_reducible refine wt_not ?_
  | with_reducible refine w_andV ?_
  | with_reducible refine w_orV ?_
  | with_reducible refine w_notV ?_
  | with_reducible refine w_if ?_
  | with_reducible refine w_bl ?_
  | with_reducible refine w_non ?_
  | with_reducible refine w_ty ?_
  | with_reducible refine w_ref ?_
  | with_reducible refine w_un ?_
  | ((with_reducible refine w_tup ?_); skip)
  | ((with_reducible refine w_lst ?_); skip)
  | ((with_reducible refine' Exists.intro _ (And.intro ?hf (And.intro ?hl ?_))); (case hf => exact rfl); (case hl => exact Nat.le_of_ble_eq_true rfl))
  | with_reducible refine w_fld ?_
  | ((with_reducible refine' fld_of ?ho ?c ?n ?l ?_); (case ho => exact rfl); (case c => assumption); (case n => with_reducible assumption); (case l => exact rfl))
  | with_reducible refine wp_top ?_
  | with_reducible refine wp_bot ?_
  | with_reducible refine w_prop ?_
  | with_reducible refine w_meth ?_
  | with_reducible refine w_smeth ?_
  | with_reducible refine wop_addI ?_
  | with_reducible refine wop_subI ?_
  | ((with_reducible refine' wop_mulI ?c ?_); rotate_left)
  | ((with_reducible refine' wop_fdI ?c ?_); rotate_left)
  | with_reducible refine wop_mdI (by first | decide | assumption) ?_
  | ((with_reducible refine' wop_mdI ?c ?_); rotate_left)
  | ((with_reducible refine' wop_I0 ?e ?_); (case e => exact rfl))
  | ((with_reducible refine' wop_ixT ?e ?_); (case e => exact rfl))
  | ((with_reducible refine' wcb_lenL ?e ?_); (case e => exact rfl))
  | with_reducible refine wcb_lenT ?_
  | ((with_reducible refine' wop_fdX ?c ?_); rotate_left)
  | ((with_reducible refine' wun_U ?e ?_); (case e => exact rfl))
  | with_reducible refine wop_eqI ?_
  | with_reducible refine wop_neI ?_
  | with_reducible refine wop_eqS ?_
  | with_reducible refine wop_neS ?_
  | with_reducible refine wop_isN ?_
  | with_reducible refine wop_notN ?_
  | ((with_reducible refine' wop_inS ?e ?_); (case e => exact rfl))
  | ((with_reducible refine' wop_niS ?e ?_); (case e => exact rfl))
  | with_reducible refine wop_inST ?_
  | with_reducible refine wcb_gcd ?_
  | with_reducible refine wcb_abs ?_
  | with_reducible refine wcb_max2 ?_
  | with_reducible refine wcb_min2 ?_
  | with_reducible refine wcb_int ?_
  | ((with_reducible refine' wcb_isi (b := true) ?ho ?hb ?_); (case ho => exact rfl); (case hb => (dsimp only [tyN]; decide +kernel)))
  | ((with_reducible refine' wcb_isi (b := false) ?ho ?hb ?_); (case ho => exact rfl); (case hb => (dsimp only [tyN]; decide +kernel)))
  | ((with_reducible refine' wcb_listOf ?e ?_); (case e => exact rfl))
  | with_reducible refine wcb_listOfT ?_
  | ((with_reducible refine' wcb_tupOf ?e ?_); (case e => exact rfl))
  | with_reducible refine w_chain ?_
  | with_reducible refine wcb_strS ?_
  | ((with_reducible refine' wcb_lenD ?e ?_); (case e => exact rfl))
  | ((with_reducible refine' wcb_listD ?e ?_); (case e => exact rfl))
  | with_reducible refine w_dnewK ?_
  | with_reducible refine w_dget ?_
  | with_reducible refine w_din ?_
  | with_reducible refine w_dni ?_
  | with_reducible refine w_lenSet ?_
  | with_reducible refine w_listVals ?_
  | with_reducible refine w_chain ?_
  | ((with_reducible refine' wt_yes ?_)))
variable {W : Wd} {a : Ad}
theorem wcb_sorted {π : Po} {k : Rv → Prop} {E : XK} {r : Rv} {x : D} {ss : List Str} (hf : fzA [r] = some [.d x]) (n : NamesOf x ss) (hl : ss.length < 64) (q : k (.new (.lst ((sortN ss).map D.str)))) :
    WCb π (fun vs H Q => spW false bSorted vs H Q E) [r] k := wcb_W0 hf rfl ⟨x, ss, rfl, n, hl, fun z => (by cases z), q⟩
theorem k_yinit (T : Txt W.K W.mg a) : ∃ (f : Addr) (fd : FuncData), FunD W.K "__init__" "Yard.__init__" (defArgs s_Yard_init) (defBody s_Yard_init) (defScope s_Yard_init) [.non] [] f fd ∧ Mk W.K a.Yard f ∧ FnOk W.P W.w W.K W.mg W.base CX0 7 f fd ["self", "speeds", "tasks"] (spI a.Yard false (bYard a.Yard a.Ratio)) := by
  obtain ⟨f, fd, F, M⟩ := T.d_Yard_init.ex
  refine ⟨f, fd, F, M, F.ok sc_Yard_init (len_I (n := 2) fun rs k ⟨_, _, _, h, _⟩ => by rw [h]; rfl) fun cdv A outer s H vs Q E hr h => ⟨_, PSs.nox (pss_cons (ps_set (i := 3) sc_Yard_init.nd rfl (Or.inr rfl) (pe_ifExp (pt_cmpR op_isN (pv 2) pe_non (nomark _)) pe_dnewK (pv 2))) (pss_cons (ps_expr (pe_cl (k_check_speeds T) hr (by decide) rfl (pa_cons (pv 1) pa_nil))) (pss_cons (ps_expr (pe_cl (k_check_tasks T) hr (by decide) rfl (pa_cons (pv 3) (pa_cons (pv 1) pa_nil)))) (pss_cons (ps_if (pt_cmpR op_gt (pe_callB (r := rLenR) call_lenR (by rfl) T.b_len (by decide +kernel) (pa_cons (pv 1) pa_nil)) (pe_cvalK (K := W.K) rfl (pe_gn (v := .ref a.Yard) (by rfl) T.o_Yard.mg rfl) rfl) (nomark _)) (pss_one ps_never) pss_nil) (pss_cons (ps_if (pt_cmpR op_gt (pe_callB (r := rLenR) call_lenR (by rfl) T.b_len (by decide +kernel) (pa_cons (pv 3) pa_nil)) (pe_cvalK (K := W.K) rfl (pe_gn (v := .ref a.Yard) (by rfl) T.o_Yard.mg rfl) rfl) (nomark _)) (pss_one ps_never) pss_nil) (pss_cons (ps_fldK (K := W.K) rfl (pv 0) (pe_dc (own := [("server", 5)]) (g := (gName 5)) (tt := tYes) rfl sc_Yard_init.nd (pi_listK (K := W.K) rfl (pe_cl (k_sorted_names T) hr (by decide) rfl (pa_cons (pv 1) pa_nil))) (blkOk_by (N := N_Yard_init) (sc := defScope s_Yard_init) (by decide +kernel)) (fun _ _ _ _ _ => (pg_name (i := 5) sc_Yard_init.nd rfl (Or.inl rfl))) (fun _ _ _ _ _ => pts_nil) (fun _ _ _ _ _ => (pv 5)) (fun _ _ _ _ _ => (pe_dget (room_u1 hr) (pv 1) (pv 5) (fun _ _ => rfl)))) rfl) (pss_cons (ps_set (i := 4) sc_Yard_init.nd rfl (Or.inl rfl) (pe_cl (k_sorted_names T) hr (by decide) rfl (pa_cons (pv 3) pa_nil))) (pss_cons (ps_fldK (K := W.K) rfl (pv 0) (pe_dc (own := [("task", 6)]) (g := (gName 6)) (tt := tYes) rfl sc_Yard_init.nd (pi_listK (K := W.K) rfl (pv 4)) (blkOk_by (N := N_Yard_init) (sc := defScope s_Yard_init) (by decide +kernel)) (fun _ _ _ _ _ => (pg_name (i := 6) sc_Yard_init.nd rfl (Or.inl rfl))) (fun _ _ _ _ _ => pts_nil) (fun _ _ _ _ _ => (pv 6)) (fun _ _ _ _ _ => (pe_sm (sm_of T) hr (by decide) (pe_gn (v := .ref a.Ratio) (by rfl) T.o_Ratio.mg rfl) (pa_cons (pe_ix (r := rIx W.K) ix_U (pe_dget (room_u1 hr) (pv 3) (pv 6) (fun _ _ => rfl)) pe_int (fun _ _ => rfl)) pa_nil)))) rfl) (pss_cons (ps_fldK (K := W.K) rfl (pv 0) (pe_dc (own := [("task", 6)]) (g := (gName 6)) (tt := tYes) rfl sc_Yard_init.nd (pi_listK (K := W.K) rfl (pv 4)) (blkOk_by (N := N_Yard_init) (sc := defScope s_Yard_init) (by decide +kernel)) (fun _ _ _ _ _ => (pg_name (i := 6) sc_Yard_init.nd rfl (Or.inl rfl))) (fun _ _ _ _ _ => pts_nil) (fun _ _ _ _ _ => (pv 6)) (fun _ _ _ _ _ => (pe_callTy (r := rTupOf W.K) call_tupleU (by rfl) T.b_tuple (by decide +kernel) (pa_cons (pe_cl (k_sorted_names T) hr (by decide) rfl (pa_cons (pe_ix (r := rIx W.K) ix_U (pe_dget (room_u1 hr) (pv 3) (pv 6) (fun _ _ => rfl)) pe_int (fun _ _ => rfl)) pa_nil)) pa_nil)))) rfl) (pss_one (ps_fldK (K := W.K) rfl (pv 0) (pe_dc2 (own := [("task", 6), ("place", 7)]) (vs1 := [7]) (g := (gName 6)) (tt := tYes) (g1 := (gName 7)) (tt1 := tYes) (room_u1 hr) rfl sc_Yard_init.nd (pi_listK (K := W.K) rfl (pv 4)) (blkOk_by (N := N_Yard_init) (sc := defScope s_Yard_init) (by decide +kernel)) (by decide) (fun _ _ _ _ _ => (pg_name (i := 6) sc_Yard_init.nd rfl (Or.inl rfl))) (fun _ _ _ _ _ => pts_nil) (fun _ _ _ _ _ => (pi_tupK (K := W.K) rfl (pe_dget (room_u1 hr) (pe_fldK (K := W.K) rfl (pv 0) rfl) (pv 6) (fun _ _ => rfl)))) (fun _ _ _ _ _ => (pg_name (i := 7) sc_Yard_init.nd rfl (Or.inl rfl))) (fun _ _ _ _ _ => pts_nil) (fun _ _ _ _ _ => (pe_tup (pa_cons (pv 6) (pa_cons (pv 7) pa_nil)))) (fun _ _ _ _ _ => pe_bl)) rfl))))))))))), run_init (n := 2) (m := 5) rfl (fun rs k ⟨_, _, _, h, _⟩ => by rw [h]; rfl) (fun π rs k x hp hB => ?_) h⟩⟩
  obtain ⟨sp, tk, z, rfl, hz, ok, okt, q⟩ := hB
  dsimp only [uns, List.replicate, List.cons_append, List.nil_append]
  refine ws_seq (ws_cut (I := fun δ => ∃ r, δ = [.own x (.obj a.Yard []), .d (.dct (spD sp)), .d z, r, .un, .un, .un, .un] ∧ (r = .d (.dct (tkD tk)) ∨ ∃ p, r = .own p (.dct (tkD tk)))) ?_ ?_)
  · repeat walk_at "wk"
    rcases hz with rfl | ⟨rfl, rfl⟩
    · refine ite_f (A := Wp π tDNewK _ _) ?_
      repeat walk_at "wk"
      exact ⟨_, rfl, .inl rfl⟩
    · refine ite_t (B := Wp π (tVar 2) _ _) ?_
      repeat walk_at "wk"
      exact wg_new fun p => ⟨_, rfl, .inr ⟨p, rfl⟩⟩
  rintro δ' ⟨r, rfl, hr'⟩
  dsimp only
  refine ws_gv (n := 3) rfl hr' ?_
  dsimp only [List.set]
  clear hr' r hz
  have lsp := ok.lt
  have ltk := okt.lt
  have hsl : (spD sp).length = sp.length := by unfold spD; rw [List.length_map]
  have htl : (tkD tk).length = tk.length := by unfold tkD; rw [List.length_map]
  repeat walk_at "wk"
  refine wcb_W0 (rs := [.d (.dct (spD sp))]) rfl rfl ⟨sp, rfl, ok, fun z => (by cases z), ?_⟩
  repeat walk_at "wk"
  refine wcb_W0 (rs := [.d (.dct (tkD tk)), .d (.dct (spD sp))]) rfl rfl ⟨sp, tk, rfl, okt, fun z => (by cases z), ?_⟩
  repeat walk_at "wk"
  refine w_cval T.c_servers ?_
  repeat walk_at "wk"
  refine ite_d (fun h0 => ?_) fun h0 => ?_
  · rw [hsl] at h0
    exact (by omega : False).elim
  repeat walk_at "wk"
  refine w_cval T.c_tasks ?_
  repeat walk_at "wk"
  refine ite_d (fun h1 => ?_) fun h1 => ?_
  · rw [htl] at h1
    exact (by omega : False).elim
  repeat walk_at "wk"
  have cY := T.o_Yard.cls
  have nP := T.n_Yard_places
  have ndS : (sortN (sp.map (·.1))).Nodup := sortN_nodup ok.nd
  have ndT : (sortN (tk.map (·.nm))).Nodup := sortN_nodup okt.nd
  have lS : (sortN (sp.map (·.1))).length ≤ 12 := by rw [sortN_len, List.length_map]; exact lsp
  have lT : (sortN (tk.map (·.nm))).length ≤ 24 := by rw [sortN_len, List.length_map]; exact ltk
  refine ws_fld rfl cY T.n_Yard_speeds rfl (by show 0 < 900; decide) ?_
  refine w_dc (gn_name (by decide)) (wi_list ?_)
  repeat walk_at "wk"
  refine wcb_sorted rfl (.dct (spD_keys sp)) (by rw [List.length_map]; omega) ?_
  refine ⟨_, rfl, dck_N (j := 5) (by decide) ndS (by omega) (fun s => .int (spV sp s)) (fun s hs => ?_) (fun s hs => ?_) ?_⟩
  · dsimp only [List.map, wipeD, List.set]
    repeat walk_at "wk"
    rfl
  · dsimp only [List.map, wipeD, List.set]
    repeat walk_at "wk"
    exact ⟨_, _, _, _, rfl, rfl, rfl, spD_at ok (sortN_mem.mp hs), rfl⟩
  repeat walk_at "wk"
  refine wcb_sorted rfl (.dct (tkD_keys tk)) (by rw [List.length_map]; omega) ?_
  refine wg_new fun p4 => ?_
  dsimp only [List.set]
  refine ws_frz (n := 4) rfl ?_
  dsimp only [List.set]
  repeat walk_at "wk"
  refine ws_fld rfl cY T.n_Yard_works rfl (by show 1 < 900; decide) ?_
  refine w_dc (gn_name (by decide)) (wi_list ?_)
  repeat walk_at "wk"
  refine ⟨_, rfl, dck_N (j := 6) (by decide) ndT (by omega) (fun s => ratQ a.Ratio (tkAt tk s).q) (fun s hs => ?_) (fun s hs => ?_) ?_⟩
  · dsimp only [List.map, wipeD, List.set]
    repeat walk_at "wk"
    rfl
  · have hs := sortN_mem.mp hs
    have o := okt.ok _ (tk_at okt hs).1
    dsimp only [List.map, wipeD, List.set]
    repeat walk_at "wk"
    refine ⟨_, _, _, _, rfl, rfl, rfl, tkD_at okt hs, ?_⟩
    repeat walk_at "wk"
    exact wcb_of o.num (sz_mono o.sz (by decide)) rfl
  repeat walk_at "wk"
  refine ws_fld rfl cY T.n_Yard_places rfl (by show 2 < 900; decide) ?_
  refine w_dc (gn_name (by decide)) (wi_list ?_)
  repeat walk_at "wk"
  refine ⟨_, rfl, dck_N (j := 6) (by decide) ndT (by omega) (fun s => .tup ((sortN (tkAt tk s).hs).map .str)) (fun s hs => ?_) (fun s hs => ?_) ?_⟩
  · dsimp only [List.map, wipeD, List.set]
    repeat walk_at "wk"
    rfl
  · have hs := sortN_mem.mp hs
    have o := okt.ok _ (tk_at okt hs).1
    dsimp only [List.map, wipeD, List.set]
    repeat walk_at "wk"
    refine ⟨_, _, _, _, rfl, rfl, rfl, tkD_at okt hs, ?_⟩
    repeat walk_at "wk"
    refine wcb_sorted rfl o.nam (by have := o.lt; omega) ?_
    repeat walk_at "wk"
    rfl
  repeat walk_at "wk"
  refine ws_fld rfl cY T.n_Yard_pairs rfl (by show 3 < 900; decide) ?_
  refine w_dc2 (gn_name (by decide)) (gn_name (by decide)) (wi_list ?_)
  repeat walk_at "wk"
  refine ⟨_, rfl, dc2k_N (j := 6) (j1 := 7) (fun s => sortN (tkAt tk s).hs) (by decide) ndT (fun s hs => ?_) ?_ (fun s hs => ?_) (fun s hs p hp => ?_) (fun s hs p hp => ?_) ?_⟩
  · exact sortN_nodup (okt.ok _ (tk_at okt (sortN_mem.mp hs)).1).nd
  · have z := prs_len (g := fun s => sortN (tkAt tk s).hs) (m := 12) (ss := sortN (tk.map (·.nm))) fun s hs => by rw [sortN_len]; exact (okt.ok _ (tk_at okt (sortN_mem.mp hs)).1).lt
    omega
  · dsimp only [List.map, wipeD, List.set]
    refine wi_tup ?_
    repeat walk_at "wk"
    exact ⟨_, _, _, _, rfl, rfl, rfl, valD_map ndT hs, _, rfl, rfl⟩
  · dsimp only [List.map, wipeD, List.set]
    repeat walk_at "wk"
    rfl
  · dsimp only [List.map, wipeD, List.set]
    repeat walk_at "wk"
    rfl
  repeat walk_at "wk"
  refine ⟨_, rfl, ?_⟩
  have e : yardF a.Ratio (norm sp tk) = ([("_speeds", .dct ((sortN (sp.map (·.1))).map fun s => (.inr s, .int (spV sp s)))), ("_works", .dct ((sortN (tk.map (·.nm))).map fun s => (.inr s, ratQ a.Ratio (tkAt tk s).q))),
      ("_places", .dct ((sortN (tk.map (·.nm))).map fun s => (.inr s, .tup ((sortN (tkAt tk s).hs).map .str)))), ("_pairs", .dcT (prs (sortN (tk.map (·.nm))) fun s => sortN (tkAt tk s).hs))] : List (Str × D)) := by
    unfold yardF norm spD wkD plD paD prs
    dsimp only
    rw [List.map_map, List.map_map, List.map_map, List.flatMap_map]
    rfl
  rw [e] at q
  exact q
theorem m_Yard2 (T : Txt W.K W.mg a) : Mak W 7 "Yard" a.Yard (spI a.Yard false (bYard a.Yard a.Ratio)) [] := by
  obtain ⟨f, fd, F, M, ok⟩ := k_yinit T
  obtain ⟨ds, d, b⟩ := F.binds1 (ps := ["self", "speeds", "tasks"]) 3 1 (by decide) (by decide) (fun T kV doc pm an cdv ct us its hl hi => match us, hl, its, hi with | [_, _, _], _, [_], _ => ⟨_, rfl, rfl⟩)
  exact ⟨f, fd, _, ds, M, ok, T.o_Yard.mg, b, d⟩
end Lw
namespace Dt
open PySem PySem.Spec PyProof.Rows L2 Ly
structure YOk (y : Yd) : Prop where
  spn : (y.sp.map (·.1)).Nodup
  spl : y.sp.length ≤ 12
  splo : ∀ p ∈ y.sp, 1 ≤ p.2
  sphi : ∀ p ∈ y.sp, p.2 ≤ 1000
  tkn : (y.tk.map (·.1)).Nodup
  tkl : y.tk.length ≤ 24
  pln : ∀ t ∈ y.tk, t.2.2.Nodup
  pll : ∀ t ∈ y.tk, t.2.2.length ≤ 12
  wks : ∀ t ∈ y.tk, Sz 1000 t.2.1.num
  den : ∃ L : Int, 0 < L ∧ Sz 2500 L ∧ ∀ t ∈ y.tk, (t.2.1.den : Int) ∣ L
abbrev yd (C R : Addr) (y : Yd) : D := .obj C (yardF R y)
/-- the tasks that are confined to some servers -/
def conf (y : Yd) (ss : List Str) : List (Str × Rat × List Str) := y.tk.filter fun t => t.2.2.all fun p => decide (p ∈ ss)
/-- the places of a value that is a set -/
inductive SetOf : D → List Str → Prop
  | lst (ss : List Str) : SetOf (.lst (ss.map D.str)) ss
  | tup (ss : List Str) : SetOf (.tup (ss.map D.str)) ss
theorem SetOf.nam {x : D} {ss : List Str} (h : SetOf x ss) : NamesOf x ss := by cases h with | lst => exact .lst ss | tup => exact .tup ss
theorem SetOf.nod {x : D} {ss : List Str} (h : SetOf x ss) : ∀ kd, x ≠ .dct kd := by cases h with | lst => exact fun kd z => (by cases z) | tup => exact fun kd z => (by cases z)
end Dt
namespace Lw
open PySem PySem.Spec PyProof.Rows L2 Ly Dt
local macro_rules | `(tactic| walk_at "wk") => `(tactic| first
  | ((with_reducible refine' w_var ?hv ?hn ?_); (case hv => exact rfl); (case hn => (intro z; cases z)))
  | with_reducible refine w_int ?_
  | with_reducible refine w_str ?_
  | with_reducible refine w_op ?_
  | with_reducible refine wa_cons ?_
  | with_reducible refine wa_nil ?_
  | with_reducible refine w_reprL ?_
  | with_reducible refine w_isi2 ?_
  | with_reducible refine w_cb ?_
  | with_reducible refine w_call ?_
  | ((with_reducible refine' ws_retV ?hv ?_); (case hv => exact rfl))
  | with_reducible refine ws_seq ?_
  | with_reducible refine ws_asg ?_
  | with_reducible refine ws_ret ?_
  | with_reducible refine ws_if ?_
  | with_reducible refine ws_next ?_
  | ((with_reducible refine' ws_append ?hv ?hz ?_); (case hv => exact rfl); rotate_left)
  | with_reducible refine ws_drop ?_
  | with_reducible refine ws_retN ?_
  | ((with_reducible refine wg_d ?_); dsimp only [List.set])
  | ((with_reducible refine wg_raw ?_); dsimp only [List.set])
  | ((with_reducible refine wg_E ?_))
  | ((with_reducible refine' we_tup ?hl ?_); (case hl => exact rfl))
  | with_reducible refine wes_cons ?_
  | with_reducible refine wes_nil ?_
  | ((with_reducible refine we_name ?_); dsimp only [List.set])
  | with_reducible refine out_d ?_
  | with_reducible refine out_new ?_
  | with_reducible refine ex_bl ?_
  | with_reducible refine ite_t ?_
  | ((with_reducible refine ex_fzd ?_); dsimp only [List.set, List.nil_append, List.cons_append])
  | ((with_reducible refine ex_fzn ?_); dsimp only [List.set, List.nil_append, List.cons_append])
  | with_reducible refine ite_nt ?_
  | with_reducible refine ite_nf ?_
  | with_reducible refine ite_f ?_
  | with_reducible refine wt_tb ?_
  | with_reducible refine wt_test ?_
  | with_reducible refine wt_and ?_
  | with_reducible refine wt_or ?_
  | with_reducible refine wt_not ?_
  | with_reducible refine w_andV ?_
  | with_reducible refine w_orV ?_
  | with_reducible refine w_notV ?_
  | with_reducible refine w_if ?_
  | with_reducible refine w_bl ?_
  | with_reducible refine w_non ?_
  | with_reducible refine w_ty ?_
  | with_reducible refine w_ref ?_
  | with_reducible refine w_un ?_
  | ((with_reducible refine w_tup ?_); skip)
  | ((with_reducible refine w_lst ?_); skip)
  | ((with_reducible refine' Exists.intro _ (And.intro ?hf (And.intro ?hl ?_))); (case hf => exact rfl); (case hl => exact Nat.le_of_ble_eq_true rfl))
  | with_reducible refine w_fld ?_
  | ((with_reducible refine' fld_of ?ho ?c ?n ?l ?_); (case ho => exact rfl); (case c => assumption); (case n => with_reducible assumption); (case l => exact rfl))
  | with_reducible refine wp_top ?_
  | with_reducible refine wp_bot ?_
  | with_reducible refine w_prop ?_
  | with_reducible refine w_meth ?_
  | with_reducible refine w_smeth ?_
  | with_reducible refine wop_addI ?_
  | with_reducible refine wop_subI ?_
  | ((with_reducible refine' wop_mulI ?c ?_); rotate_left)
  | ((with_reducible refine' wop_fdI ?c ?_); rotate_left)
  | with_reducible refine wop_mdI (by first | decide | assumption) ?_
  | ((with_reducible refine' wop_mdI ?c ?_); rotate_left)
  | ((with_reducible refine' wop_I0 ?e ?_); (case e => exact rfl))
  | ((with_reducible refine' wop_ixT ?e ?_); (case e => exact rfl))
  | ((with_reducible refine' wcb_lenL ?e ?_); (case e => exact rfl))
  | with_reducible refine wcb_lenT ?_
  | ((with_reducible refine' wop_fdX ?c ?_); rotate_left)
  | ((with_reducible refine' wun_U ?e ?_); (case e => exact rfl))
  | with_reducible refine wop_eqI ?_
  | with_reducible refine wop_neI ?_
  | with_reducible refine wop_eqS ?_
  | with_reducible refine wop_neS ?_
  | with_reducible refine wop_isN ?_
  | with_reducible refine wop_notN ?_
  | ((with_reducible refine' wop_inS ?e ?_); (case e => exact rfl))
  | ((with_reducible refine' wop_niS ?e ?_); (case e => exact rfl))
  | with_reducible refine wop_inST ?_
  | with_reducible refine wcb_gcd ?_
  | with_reducible refine wcb_abs ?_
  | with_reducible refine wcb_max2 ?_
  | with_reducible refine wcb_min2 ?_
  | with_reducible refine wcb_int ?_
  | ((with_reducible refine' wcb_isi (b := true) ?ho ?hb ?_); (case ho => exact rfl); (case hb => (dsimp only [tyN]; decide +kernel)))
  | ((with_reducible refine' wcb_isi (b := false) ?ho ?hb ?_); (case ho => exact rfl); (case hb => (dsimp only [tyN]; decide +kernel)))
  | ((with_reducible refine' wcb_listOf ?e ?_); (case e => exact rfl))
  | with_reducible refine wcb_listOfT ?_
  | ((with_reducible refine' wcb_tupOf ?e ?_); (case e => exact rfl))
  | with_reducible refine w_chain ?_
  | with_reducible refine wcb_strS ?_
  | ((with_reducible refine' wcb_lenD ?e ?_); (case e => exact rfl))
  | ((with_reducible refine' wcb_listD ?e ?_); (case e => exact rfl))
  | with_reducible refine w_dnewK ?_
  | with_reducible refine w_dget ?_
  | with_reducible refine w_din ?_
  | with_reducible refine w_dni ?_
  | with_reducible refine w_lenSet ?_
  | with_reducible refine w_listVals ?_
  | with_reducible refine w_chain ?_
  | ((with_reducible refine' wt_yes ?_)))
variable {W : Wd} {a : Ad}
def bYS (C R : Addr) (f : Yd → List Str → Rv) (rs : List Rv) (k : Rv → Prop) : Prop := ∃ y x ss, rs = [.d (yd C R y), .d x] ∧ YOk y ∧ SetOf x ss ∧ ss.length < 100 ∧ setB (spD y.sp) ss = true ∧ k (f y ss)
theorem wcb_ys {π : Po} {k : Rv → Prop} {E : XK} {C R : Addr} {f : Yd → List Str → Rv} {r1 r2 : Rv} {y : Yd} {x : D} {ss : List Str} (hf : fzA [r1, r2] = some [.d (yd C R y), .d x]) (ok : YOk y) (n : SetOf x ss) (hl : ss.length < 100) (hs : setB (spD y.sp) ss = true) (np : f y ss ≠ .pot) (q : k (f y ss)) :
    WCb π (fun vs H Q => spW false (bYS C R f) vs H Q E) [r1, r2] k := wcb_W0 hf rfl ⟨y, x, ss, rfl, ok, n, hl, hs, np, q⟩
theorem my_check_set (T : Txt W.K W.mg a) : Mt W 2 a.Yard "_check_set" (spW false (bYS a.Yard a.Ratio fun _ _ => .d .non)) := by
  refine mt_W T.d_Yard_check_set sc_Yard_check_set bd_Yard_check_set (fun rs k ⟨_, _, _, h, _⟩ => by rw [h]; rfl) (body_W (n := 2) (m := 0) rfl (fun rs k ⟨_, _, _, h, _⟩ => by rw [h]; rfl) fun f cdv A outer s H E hr => ⟨_, (pss_one (ps_if (pt_not (pt_val (pe_cl (k_is_set_of T) hr (by decide) rfl (pa_cons (pv 1) (pa_cons (pe_fldK (K := W.K) rfl (pv 0) rfl) pa_nil))))) (pss_one ps_never) pss_nil)), fun π rs kr hp hB => ?_⟩)
  obtain ⟨y, x, ss, rfl, ok, n, hl, hs, q⟩ := hB
  dsimp only [uns, List.replicate, List.cons_append, List.nil_append]
  have cY := T.o_Yard.cls
  have nS := T.n_Yard_speeds
  repeat walk_at "wk"
  refine wcb_set rfl n.nam n.nod (by omega) ?_
  rw [hs]
  repeat walk_at "wk"
  exact q
theorem by_confined (T : Txt W.K W.mg a) : BodyOk W 2 N_Yard_confined "Yard.confined" s_Yard_confined (spW false (bYS a.Yard a.Ratio fun y ss => .new (.lst ((conf y ss).map fun t => .str t.1)))) := by
  refine body_W (n := 2) (m := 3) rfl (fun rs k ⟨_, _, _, h, _⟩ => by rw [h]; rfl) fun f cdv A outer s H E hr => ⟨_, (pss_cons (ps_expr (pe_mt T.o_Yard.cls (my_check_set T) hr (by decide) (pv 0) (pa_cons (pv 1) pa_nil))) (pss_one (ps_ret (pe_lockO (pe_lc (own := [("task", 2), ("places", 3)]) (g := _) (tt := _) rfl sc_Yard_confined.nd (pi_items (pe_fldK (K := W.K) rfl (pv 0) rfl) rfl rfl) (blkOk_by (N := N_Yard_confined) (sc := defScope s_Yard_confined) (by decide +kernel)) (fun _ _ _ _ _ => (pg_tupK (K := W.K) (n := 2) rfl rfl (pgs_cons (pg_name (i := 2) sc_Yard_confined.nd rfl (Or.inl rfl)) (pgs_cons (pg_name (i := 3) sc_Yard_confined.nd rfl (Or.inl rfl)) pgs_nil)))) (fun _ _ _ _ _ => (pts_one (pt_val (pe_callB (r := rAll W.K) (cr_all rfl) (by rfl) T.b_all (by decide +kernel) (pa_cons (pe_lc (own := [("place", 4)]) (g := (gName 4)) (tt := tYes) rfl sc_Yard_confined.nd (pi_tupK (K := W.K) rfl (pv 3)) (blkOk_by (N := N_Yard_confined) (sc := rlb (defScope s_Yard_confined) (stScope ((defBody s_Yard_confined).getD 1 ps0))) (by decide +kernel)) (fun _ _ _ _ _ => (pg_name (i := 4) sc_Yard_confined.nd rfl (Or.inl rfl))) (fun _ _ _ _ _ => pts_nil) (fun _ _ _ _ _ => (pe_cmpR (r := rIn W.K false) op_in_seq (pv 4) (pv 1) rfl))) pa_nil))))) (fun _ _ _ _ _ => (pv 2))))))), fun π rs kr hp hB => ?_⟩
  obtain ⟨y, x, ss, rfl, ok, n, hl, hs, q⟩ := hB
  dsimp only [uns, List.replicate, List.cons_append, List.nil_append]
  have cY := T.o_Yard.cls
  have nP := T.n_Yard_places
  repeat walk_at "wk"
  refine ⟨⟨_, rfl, rfl⟩, ?_⟩
  repeat walk_at "wk"
  refine wcb_ys rfl ok n hl hs (by intro z; cases z) ?_
  have hds : ((plD y.tk).map fun p => D.tup [dKey p.1, p.2]) = y.tk.map fun t => .tup [.str t.1, .tup (t.2.2.map .str)] := by
    unfold plD
    rw [List.map_map]
    rfl
  have hlt := ok.tkl
  cases n <;> (
    repeat walk_at "wk"
    refine w_lcD dit_items (gn_tup (gn_cons (gn_name (by decide)) (gn_cons (gn_name (by decide)) gn_nil gm_name) gm_name)) (std_fld (std_var rfl) cY nP rfl) ?_
    rw [hds]
    refine ⟨fun i acc => acc = (conf { y with tk := y.tk.take i } ss).map fun t => .str t.1, rfl, fun i d acc hd hI => ?_, fun acc hI => ?_⟩
    · rw [List.getElem?_map] at hd
      obtain ⟨t, ht, rfl⟩ := Option.map_eq_some_iff.mp hd
      have hm := List.mem_of_getElem? ht
      have hi := (List.getElem?_eq_some_iff.mp ht).1
      have hlp := ok.pll t hm
      have et : y.tk.take (i + 1) = y.tk.take i ++ [t] := by rw [List.take_add_one, ht]; rfl
      have hla : acc.length ≤ 24 := by
        rw [hI, List.length_map]
        refine Nat.le_trans (List.length_filter_le _ _) ?_
        show (y.tk.take i).length ≤ 24
        rw [List.length_take]
        omega
      dsimp only [List.map, wipeD, List.set]
      repeat walk_at "wk"
      refine w_lcM (j := 4) (by decide) (fun d => match d with | .str s => .bl (decide (s ∈ ss)) | _ => .bl false) (wi_tup ?_)
      repeat walk_at "wk"
      refine ⟨_, rfl, by rw [List.length_map]; omega, fun d hd => ?_, ?_⟩
      · obtain ⟨s, _, rfl⟩ := List.mem_map.mp hd
        dsimp only [List.map, wipeD, List.set]
        repeat walk_at "wk"
        rfl
      · rw [List.map_map]
        repeat walk_at "wk"
        refine wcb_all (bs := t.2.2.map fun p => decide (p ∈ ss)) (by rw [List.map_map]; rfl) ?_
        repeat walk_at "wk"
        rw [List.all_map]
        have ec : conf { y with tk := y.tk.take (i + 1) } ss = conf { y with tk := y.tk.take i } ss ++ (if (t.2.2.all fun p => decide (p ∈ ss)) = true then [t] else []) := by
          unfold conf
          dsimp only
          rw [et, List.filter_append, List.filter_cons, List.filter_nil]
        refine ite_b (fun hb => ?_) fun hb => ?_
        · repeat walk_at "wk"
          refine ⟨_, rfl, by omega, ?_⟩
          show acc ++ [.str t.1] = (conf { y with tk := y.tk.take (i + 1) } ss).map fun t => .str t.1
          rw [ec, if_pos (show (t.2.2.all fun p => decide (p ∈ ss)) = true from hb), List.map_append, hI]
          rfl
        · show acc = (conf { y with tk := y.tk.take (i + 1) } ss).map fun t => .str t.1
          rw [ec, if_neg (by rw [show (t.2.2.all fun p => decide (p ∈ ss)) = false from hb]; exact Bool.false_ne_true), List.append_nil, hI]
    · rw [hI, List.length_map, List.take_length]
      exact out_new q)
theorem my_confined (T : Txt W.K W.mg a) : Mt W 3 a.Yard "confined" (spW false (bYS a.Yard a.Ratio fun y ss => .new (.lst ((conf y ss).map fun t => .str t.1)))) := mt_W T.d_Yard_confined sc_Yard_confined bd_Yard_confined (fun rs k ⟨_, _, _, h, _⟩ => by rw [h]; rfl) (by_confined T)
theorem myk_confined (T : Txt W.K W.mg a) : MtK W 3 a.Yard "confined" 1 ["servers"] (spW false (bYS a.Yard a.Ratio fun y ss => .new (.lst ((conf y ss).map fun t => .str t.1)))) := mtk_of T.d_Yard_confined sc_Yard_confined (fun _ _ _ _ _ _ us ws l1 l2 => match us, ws, l1, l2 with | [_], [_], _, _ => rfl) (len_W (n := 2) (fun rs k ⟨_, _, _, h, _⟩ => by rw [h]; rfl)) (by_confined T)
theorem conf_sub {y : Yd} {ss : List Str} {t : Str × Rat × List Str} (h : t ∈ conf y ss) : t ∈ y.tk := (List.mem_filter.mp h).1
theorem wkD_at {y : Yd} (ok : YOk y) {R : Addr} {t : Str × Rat × List Str} (h : t ∈ y.tk) : valD (wkD R y.tk) (.inr t.1) = some (ratQ R t.2.1) :=
  valD_mem (by unfold wkD; rw [List.map_map]; have z := inr_nodup ok.tkn; rw [List.map_map] at z; exact z) (List.mem_map.mpr ⟨t, h, rfl⟩)
theorem by_weight (T : Txt W.K W.mg a) : BodyOk W 5 N_Yard_weight "Yard.weight" s_Yard_weight (spW false (bYS a.Yard a.Ratio fun y ss => .d (ratQ a.Ratio ((conf y ss).map fun t => t.2.1).sum))) := by
  refine body_W (n := 2) (m := 1) rfl (fun rs k ⟨_, _, _, h, _⟩ => by rw [h]; rfl) fun f cdv A outer s H E hr => ⟨_, (pss_one (ps_ret (pe_cl (k_sum_of T) hr (by decide) rfl (pa_cons (pe_lc (own := [("task", 2)]) (g := (gName 2)) (tt := tYes) rfl sc_Yard_weight.nd (pi_listK (K := W.K) rfl (pe_mt T.o_Yard.cls (my_confined T) hr (by decide) (pv 0) (pa_cons (pv 1) pa_nil))) (blkOk_by (N := N_Yard_weight) (sc := defScope s_Yard_weight) (by decide +kernel)) (fun _ _ _ _ _ => (pg_name (i := 2) sc_Yard_weight.nd rfl (Or.inl rfl))) (fun _ _ _ _ _ => pts_nil) (fun _ _ _ _ _ => (pe_dget (room_u1 hr) (pe_fldK (K := W.K) rfl (pv 0) rfl) (pv 2) (fun _ _ => rfl)))) pa_nil)))), fun π rs kr hp hB => ?_⟩
  obtain ⟨y, x, ss, rfl, ok, n, hl, hs, q⟩ := hB
  dsimp only [uns, List.replicate, List.cons_append, List.nil_append]
  have cY := T.o_Yard.cls
  have nW := T.n_Yard_works
  have hlt := ok.tkl
  have hlc : (conf y ss).length ≤ 24 := Nat.le_trans (List.length_filter_le _ _) hlt
  repeat walk_at "wk"
  refine w_lcM (j := 2) (by decide) (fun d => match d with | .str s => (valD (wkD a.Ratio y.tk) (.inr s)).getD .non | _ => .non) (wi_list ?_)
  repeat walk_at "wk"
  refine ⟨⟨_, rfl, rfl⟩, ?_⟩
  repeat walk_at "wk"
  refine wcb_ys rfl ok n hl hs (by intro z; cases z) ?_
  refine ⟨_, rfl, by rw [List.length_map]; omega, fun d hd => ?_, ?_⟩
  · obtain ⟨t, ht, rfl⟩ := List.mem_map.mp hd
    dsimp only [List.map, wipeD, List.set]
    repeat walk_at "wk"
    exact ⟨_, _, _, _, rfl, rfl, rfl, wkD_at ok (conf_sub ht), by rw [wkD_at ok (conf_sub ht)]; rfl⟩
  · obtain ⟨L, L0, zL, hL⟩ := ok.den
    have e : (((conf y ss).map fun t => D.str t.1).map fun d => match d with | .str s => (valD (wkD a.Ratio y.tk) (.inr s)).getD .non | _ => .non) = ((conf y ss).map fun t => t.2.1).map (ratQ a.Ratio) := by
      rw [List.map_map, List.map_map]
      apply List.map_congr_left
      intro t ht
      show (valD (wkD a.Ratio y.tk) (.inr t.1)).getD .non = ratQ a.Ratio t.2.1
      rw [wkD_at ok (conf_sub ht)]
      rfl
    rw [e]
    repeat walk_at "wk"
    refine wcb_sum_of rfl (.rats _) (by rw [List.length_map, List.length_map]; omega) (fun p hp => ?_) L0 (sz_mono zL (by decide)) (fun p hp => ?_) (out_d q)
    · obtain ⟨t, ht, rfl⟩ := List.mem_map.mp hp
      exact sz_mono (ok.wks t (conf_sub ht)) (by decide)
    · obtain ⟨t, ht, rfl⟩ := List.mem_map.mp hp
      exact hL t (conf_sub ht)
theorem my_weight (T : Txt W.K W.mg a) : Mt W 6 a.Yard "weight" (spW false (bYS a.Yard a.Ratio fun y ss => .d (ratQ a.Ratio ((conf y ss).map fun t => t.2.1).sum))) := mt_W T.d_Yard_weight sc_Yard_weight bd_Yard_weight (fun rs k ⟨_, _, _, h, _⟩ => by rw [h]; rfl) (by_weight T)
theorem myk_weight (T : Txt W.K W.mg a) : MtK W 6 a.Yard "weight" 1 ["servers"] (spW false (bYS a.Yard a.Ratio fun y ss => .d (ratQ a.Ratio ((conf y ss).map fun t => t.2.1).sum))) := mtk_of T.d_Yard_weight sc_Yard_weight (fun _ _ _ _ _ _ us ws l1 l2 => match us, ws, l1, l2 with | [_], [_], _, _ => rfl) (len_W (n := 2) (fun rs k ⟨_, _, _, h, _⟩ => by rw [h]; rfl)) (by_weight T)
end Lw
namespace Dt
open PySem PySem.Spec PyProof.Rows L2 Ly
theorem setB_ne {kd : List (Key × D)} {ss : List Str} (h : setB kd ss = true) : ss ≠ [] := by
  unfold setB at h
  intro z
  subst z
  exact absurd h (by simp)
theorem setB_sub {kd : List (Key × D)} {ss : List Str} (h : setB kd ss = true) : ∀ s ∈ ss, (.inr s : Key) ∈ kd.map (·.1) := by
  unfold setB at h
  rw [Bool.and_eq_true, Bool.and_eq_true, List.all_eq_true] at h
  exact fun s hs => valD_some.mp (h.2.1 s hs)
theorem spD_in {sp : List (Str × Int)} {s : Str} (h : (.inr s : Key) ∈ (spD sp).map (·.1)) : ∃ p ∈ sp, p.1 = s := by
  rw [spD_keys] at h
  obtain ⟨t, ht, e⟩ := List.mem_map.mp h
  obtain ⟨p, hp, rfl⟩ := List.mem_map.mp ht
  exact ⟨p, hp, Sum.inr.inj e⟩
theorem spD_atN {sp : List (Str × Int)} (hn : (sp.map (·.1)).Nodup) {s : Str} (h : (.inr s : Key) ∈ (spD sp).map (·.1)) : valD (spD sp) (.inr s) = some (.int (spV sp s)) := by
  obtain ⟨p, hp, rfl⟩ := spD_in h
  rw [spV_mem hn hp]
  exact valD_mem (by rw [spD_keys]; exact inr_nodup hn) (List.mem_map.mpr ⟨p, hp, rfl⟩)
def spS (y : Yd) (ss : List Str) : Int := (ss.map (spV y.sp)).sum
theorem spS_pos {y : Yd} (ok : YOk y) {ss : List Str} (h : setB (spD y.sp) ss = true) : 1 ≤ spS y ss ∧ spS y ss ≤ ss.length * 1000 := by
  have hs := setB_sub h
  have hn := setB_ne h
  have key : ∀ ts : List Str, (∀ s ∈ ts, (.inr s : Key) ∈ (spD y.sp).map (·.1)) → (ts.length : Int) ≤ (ts.map (spV y.sp)).sum ∧ (ts.map (spV y.sp)).sum ≤ ts.length * 1000 := by
    intro ts
    induction ts with
    | nil => intro _; simp
    | cons t ts ih =>
      intro ht
      have h1 := ih fun s m => ht s (List.mem_cons_of_mem _ m)
      obtain ⟨p, hp, rfl⟩ := spD_in (ht t List.mem_cons_self)
      have h2 := ok.splo p hp
      have h3 := ok.sphi p hp
      rw [List.map_cons, List.sum_cons, List.length_cons, spV_mem ok.spn hp]
      omega
  have z := key ss hs
  have : 0 < ss.length := List.length_pos_iff.mpr hn
  unfold spS
  omega
theorem sum_sz {qs : List Rat} {L : Int} {n m l : Nat} (hq : ∀ q ∈ qs, Sz n q.num) (L0 : 0 < L) (zL : Sz m L) (hL : ∀ q ∈ qs, (q.den : Int) ∣ L) (hl : qs.length < 2 ^ l) : Sz (n + m + l) qs.sum.num ∧ Sz m (qs.sum.den : Int) ∧ (qs.sum.den : Int) ∣ L := by
  have hb : L ≠ 0 := Int.ne_of_gt L0
  have e := sum_q hb hL
  rw [← e]
  refine ⟨?_, ?_, ?_⟩
  · rw [← nu_q hb]
    refine sz_le (sz_sum (n := n + m) (m := l) (fun x hx => ?_) (by rw [List.length_map]; exact hl)) (nu_le _ _ hb)
    obtain ⟨p, hm, rfl⟩ := List.mem_map.mp hx
    exact sz_mul (hq p hm) (sz_ediv (y := (p.den : Int)) zL)
  · rw [← de_q hb]
    exact sz_le zL (de_le _ _ hb)
  · rw [Rat.den_divInt, if_neg hb]
    have hg : ((Int.gcd L ((qs.map fun q => q.num * (L / (q.den : Int))).sum) : Nat) : Int) ∣ L := Int.gcd_dvd_left ..
    obtain ⟨c, hc⟩ := hg
    refine ⟨((Int.gcd L ((qs.map fun q => q.num * (L / (q.den : Int))).sum) : Nat) : Int), ?_⟩
    have hnat : ((L.natAbs : Nat) : Int) = L := Int.natAbs_of_nonneg (Int.le_of_lt L0)
    have hd : Int.gcd L ((qs.map fun q => q.num * (L / (q.den : Int))).sum) ∣ L.natAbs := Int.gcd_dvd_natAbs_left ..
    have := Nat.div_mul_cancel hd
    have h2 : ((L.natAbs / Int.gcd L ((qs.map fun q => q.num * (L / (q.den : Int))).sum) : Nat) : Int) * ((Int.gcd L ((qs.map fun q => q.num * (L / (q.den : Int))).sum) : Nat) : Int) = L := by
      rw [← Int.natCast_mul, this, hnat]
    exact h2.symm
end Dt
namespace Lw
open PySem PySem.Spec PyProof.Rows L2 Ly Dt
local macro_rules | `(tactic| walk_at "wk") => `(tactic| first
  | ((with_reducible refine' w_var ?hv ?hn ?_); (case hv => exact rfl); (case hn => (intro z; cases z)))
  | with_reducible refine w_int ?_
  | with_reducible refine w_str ?_
  | with_reducible refine w_op ?_
  | with_reducible refine wa_cons ?_
  | with_reducible refine wa_nil ?_
  | with_reducible refine w_reprL ?_
  | with_reducible refine w_isi2 ?_
  | with_reducible refine w_cb ?_
  | with_reducible refine w_call ?_
  | ((with_reducible refine' ws_retV ?hv ?_); (case hv => exact rfl))
  | with_reducible refine ws_seq ?_
  | with_reducible refine ws_asg ?_
  | with_reducible refine ws_ret ?_
  | with_reducible refine ws_if ?_
  | with_reducible refine ws_next ?_
  | ((with_reducible refine' ws_append ?hv ?hz ?_); (case hv => exact rfl); rotate_left)
  | with_reducible refine ws_drop ?_
  | with_reducible refine ws_retN ?_
  | ((with_reducible refine wg_d ?_); dsimp only [List.set])
  | ((with_reducible refine wg_raw ?_); dsimp only [List.set])
  | ((with_reducible refine wg_E ?_))
  | ((with_reducible refine' we_tup ?hl ?_); (case hl => exact rfl))
  | with_reducible refine wes_cons ?_
  | with_reducible refine wes_nil ?_
  | ((with_reducible refine we_name ?_); dsimp only [List.set])
  | with_reducible refine out_d ?_
  | with_reducible refine out_new ?_
  | with_reducible refine ex_bl ?_
  | with_reducible refine ite_t ?_
  | ((with_reducible refine ex_fzd ?_); dsimp only [List.set, List.nil_append, List.cons_append])
  | ((with_reducible refine ex_fzn ?_); dsimp only [List.set, List.nil_append, List.cons_append])
  | with_reducible refine ite_nt ?_
  | with_reducible refine ite_nf ?_
  | with_reducible refine ite_f ?_
  | with_reducible refine wt_tb ?_
  | with_reducible refine wt_test ?_
  | with_reducible refine wt_and ?_
  | with_reducible refine wt_or ?_
  | with_reducible refine wt_not ?_
  | with_reducible refine w_andV ?_
  | with_reducible refine w_orV ?_
  | with_reducible refine w_notV ?_
  | with_reducible refine w_if ?_
  | with_reducible refine w_bl ?_
  | with_reducible refine w_non ?_
  | with_reducible refine w_ty ?_
  | with_reducible refine w_ref ?_
  | with_reducible refine w_un ?_
  | ((with_reducible refine w_tup ?_); skip)
  | ((with_reducible refine w_lst ?_); skip)
  | ((with_reducible refine' Exists.intro _ (And.intro ?hf (And.intro ?hl ?_))); (case hf => exact rfl); (case hl => exact Nat.le_of_ble_eq_true rfl))
  | with_reducible refine w_fld ?_
  | ((with_reducible refine' fld_of ?ho ?c ?n ?l ?_); (case ho => exact rfl); (case c => assumption); (case n => with_reducible assumption); (case l => exact rfl))
  | with_reducible refine wp_top ?_
  | with_reducible refine wp_bot ?_
  | with_reducible refine w_prop ?_
  | with_reducible refine w_meth ?_
  | with_reducible refine w_smeth ?_
  | with_reducible refine wop_addI ?_
  | with_reducible refine wop_subI ?_
  | ((with_reducible refine' wop_mulI ?c ?_); rotate_left)
  | ((with_reducible refine' wop_fdI ?c ?_); rotate_left)
  | with_reducible refine wop_mdI (by first | decide | assumption) ?_
  | ((with_reducible refine' wop_mdI ?c ?_); rotate_left)
  | ((with_reducible refine' wop_I0 ?e ?_); (case e => exact rfl))
  | ((with_reducible refine' wop_ixT ?e ?_); (case e => exact rfl))
  | ((with_reducible refine' wcb_lenL ?e ?_); (case e => exact rfl))
  | with_reducible refine wcb_lenT ?_
  | ((with_reducible refine' wop_fdX ?c ?_); rotate_left)
  | ((with_reducible refine' wun_U ?e ?_); (case e => exact rfl))
  | with_reducible refine wop_eqI ?_
  | with_reducible refine wop_neI ?_
  | with_reducible refine wop_eqS ?_
  | with_reducible refine wop_neS ?_
  | with_reducible refine wop_isN ?_
  | with_reducible refine wop_notN ?_
  | ((with_reducible refine' wop_inS ?e ?_); (case e => exact rfl))
  | ((with_reducible refine' wop_niS ?e ?_); (case e => exact rfl))
  | with_reducible refine wop_inST ?_
  | with_reducible refine wcb_gcd ?_
  | with_reducible refine wcb_abs ?_
  | with_reducible refine wcb_max2 ?_
  | with_reducible refine wcb_min2 ?_
  | with_reducible refine wcb_int ?_
  | ((with_reducible refine' wcb_isi (b := true) ?ho ?hb ?_); (case ho => exact rfl); (case hb => (dsimp only [tyN]; decide +kernel)))
  | ((with_reducible refine' wcb_isi (b := false) ?ho ?hb ?_); (case ho => exact rfl); (case hb => (dsimp only [tyN]; decide +kernel)))
  | ((with_reducible refine' wcb_listOf ?e ?_); (case e => exact rfl))
  | with_reducible refine wcb_listOfT ?_
  | ((with_reducible refine' wcb_tupOf ?e ?_); (case e => exact rfl))
  | with_reducible refine w_chain ?_
  | with_reducible refine wcb_strS ?_
  | ((with_reducible refine' wcb_lenD ?e ?_); (case e => exact rfl))
  | ((with_reducible refine' wcb_listD ?e ?_); (case e => exact rfl))
  | with_reducible refine w_dnewK ?_
  | with_reducible refine w_dget ?_
  | with_reducible refine w_din ?_
  | with_reducible refine w_dni ?_
  | with_reducible refine w_lenSet ?_
  | with_reducible refine w_listVals ?_
  | with_reducible refine w_chain ?_
  | ((with_reducible refine' wt_yes ?_)))
variable {W : Wd} {a : Ad}
theorem by_speed_of (T : Txt W.K W.mg a) : BodyOk W 2 N_Yard_speed_of "Yard.speed_of" s_Yard_speed_of (spW false (bYS a.Yard a.Ratio fun y ss => .d (.int (spS y ss)))) := by
  refine body_or (B1 := fun rs k => ∃ y ss, rs = [.d (yd a.Yard a.Ratio y), .d (.lst (ss.map D.str))] ∧ YOk y ∧ ss.length < 100 ∧ setB (spD y.sp) ss = true ∧ k (.d (.int (spS y ss))))
    (B2 := fun rs k => ∃ y ss, rs = [.d (yd a.Yard a.Ratio y), .d (.tup (ss.map D.str))] ∧ YOk y ∧ ss.length < 100 ∧ setB (spD y.sp) ss = true ∧ k (.d (.int (spS y ss)))) (fun rs k ⟨y, x, ss, h, ok, n, hl, hs, q⟩ => ?_) ?_ ?_
  · cases n with
    | lst => exact .inl ⟨y, ss, h, ok, hl, hs, q⟩
    | tup => exact .inr ⟨y, ss, h, ok, hl, hs, q⟩
  · refine body_W (n := 2) (m := 1) rfl (fun rs k ⟨_, _, h, _⟩ => by rw [h]; rfl) fun f cdv A outer s H E hr => ⟨_, (pss_cons (ps_expr (pe_mt T.o_Yard.cls (my_check_set T) hr (by decide) (pv 0) (pa_cons (pv 1) pa_nil))) (pss_one (ps_ret (pe_callB (cr_sum rfl) (by rfl) T.b_sum (by decide +kernel) (pa_cons (pe_lc (own := [("server", 2)]) (g := (gName 2)) (tt := tYes) rfl sc_Yard_speed_of.nd (pi_listK (K := W.K) rfl (pv 1)) (blkOk_by (N := N_Yard_speed_of) (sc := defScope s_Yard_speed_of) (by decide +kernel)) (fun _ _ _ _ _ => (pg_name (i := 2) sc_Yard_speed_of.nd rfl (Or.inl rfl))) (fun _ _ _ _ _ => pts_nil) (fun _ _ _ _ _ => (pe_dget (room_u1 hr) (pe_fldK (K := W.K) rfl (pv 0) rfl) (pv 2) (fun _ _ => rfl)))) pa_nil))))), fun π rs kr hp hB => ?_⟩
    obtain ⟨y, ss, rfl, ok, hl, hs, q⟩ := hB
    dsimp only [uns, List.replicate, List.cons_append, List.nil_append]
    have cY := T.o_Yard.cls
    have nS := T.n_Yard_speeds
    repeat walk_at "wk"
    refine ⟨⟨_, rfl, rfl⟩, ?_⟩
    repeat walk_at "wk"
    refine wcb_ys rfl ok (.lst ss) hl hs (by intro z; cases z) ?_
    repeat walk_at "wk"
    refine w_lcM (j := 2) (by decide) (fun d => match d with | .str s => .int (spV y.sp s) | _ => .non) (wi_list ?_)
    repeat walk_at "wk"
    refine ⟨_, rfl, by rw [List.length_map]; omega, fun d hd => ?_, ?_⟩
    · obtain ⟨s, hm, rfl⟩ := List.mem_map.mp hd
      dsimp only [List.map, wipeD, List.set]
      repeat walk_at "wk"
      exact ⟨_, _, _, _, rfl, rfl, rfl, spD_atN ok.spn (setB_sub hs s hm), rfl⟩
    · rw [List.map_map]
      repeat walk_at "wk"
      exact wcb_sum (ns := ss.map (spV y.sp)) (by rw [List.map_map]; rfl) (out_d q)
  · refine body_W (n := 2) (m := 1) rfl (fun rs k ⟨_, _, h, _⟩ => by rw [h]; rfl) fun f cdv A outer s H E hr => ⟨_, (pss_cons (ps_expr (pe_mt T.o_Yard.cls (my_check_set T) hr (by decide) (pv 0) (pa_cons (pv 1) pa_nil))) (pss_one (ps_ret (pe_callB (cr_sum rfl) (by rfl) T.b_sum (by decide +kernel) (pa_cons (pe_lc (own := [("server", 2)]) (g := (gName 2)) (tt := tYes) rfl sc_Yard_speed_of.nd (pi_tupK (K := W.K) rfl (pv 1)) (blkOk_by (N := N_Yard_speed_of) (sc := defScope s_Yard_speed_of) (by decide +kernel)) (fun _ _ _ _ _ => (pg_name (i := 2) sc_Yard_speed_of.nd rfl (Or.inl rfl))) (fun _ _ _ _ _ => pts_nil) (fun _ _ _ _ _ => (pe_dget (room_u1 hr) (pe_fldK (K := W.K) rfl (pv 0) rfl) (pv 2) (fun _ _ => rfl)))) pa_nil))))), fun π rs kr hp hB => ?_⟩
    obtain ⟨y, ss, rfl, ok, hl, hs, q⟩ := hB
    dsimp only [uns, List.replicate, List.cons_append, List.nil_append]
    have cY := T.o_Yard.cls
    have nS := T.n_Yard_speeds
    repeat walk_at "wk"
    refine ⟨⟨_, rfl, rfl⟩, ?_⟩
    repeat walk_at "wk"
    refine wcb_ys rfl ok (.tup ss) hl hs (by intro z; cases z) ?_
    repeat walk_at "wk"
    refine w_lcM (j := 2) (by decide) (fun d => match d with | .str s => .int (spV y.sp s) | _ => .non) (wi_tup ?_)
    repeat walk_at "wk"
    refine ⟨_, rfl, by rw [List.length_map]; omega, fun d hd => ?_, ?_⟩
    · obtain ⟨s, hm, rfl⟩ := List.mem_map.mp hd
      dsimp only [List.map, wipeD, List.set]
      repeat walk_at "wk"
      exact ⟨_, _, _, _, rfl, rfl, rfl, spD_atN ok.spn (setB_sub hs s hm), rfl⟩
    · rw [List.map_map]
      repeat walk_at "wk"
      exact wcb_sum (ns := ss.map (spV y.sp)) (by rw [List.map_map]; rfl) (out_d q)
theorem my_speed_of (T : Txt W.K W.mg a) : Mt W 3 a.Yard "speed_of" (spW false (bYS a.Yard a.Ratio fun y ss => .d (.int (spS y ss)))) := mt_W T.d_Yard_speed_of sc_Yard_speed_of bd_Yard_speed_of (fun rs k ⟨_, _, _, h, _⟩ => by rw [h]; rfl) (by_speed_of T)
theorem myk_speed_of (T : Txt W.K W.mg a) : MtK W 3 a.Yard "speed_of" 1 ["servers"] (spW false (bYS a.Yard a.Ratio fun y ss => .d (.int (spS y ss)))) := mtk_of T.d_Yard_speed_of sc_Yard_speed_of (fun _ _ _ _ _ _ us ws l1 l2 => match us, ws, l1, l2 with | [_], [_], _, _ => rfl) (len_W (n := 2) (fun rs k ⟨_, _, _, h, _⟩ => by rw [h]; rfl)) (by_speed_of T)
def wtS (y : Yd) (ss : List Str) : Rat := ((conf y ss).map fun t => t.2.1).sum
theorem wtS_sz {y : Yd} (ok : YOk y) (ss : List Str) : SzQ 4000 (wtS y ss) := by
  obtain ⟨L, L0, zL, hL⟩ := ok.den
  have hlc : (conf y ss).length ≤ 24 := Nat.le_trans (List.length_filter_le _ _) ok.tkl
  have z := sum_sz (qs := (conf y ss).map fun t => t.2.1) (n := 1000) (l := 5) (fun p hp => ?_) L0 zL (fun p hp => ?_) (by rw [List.length_map]; omega)
  · exact ⟨sz_mono z.1 (by decide), sz_mono z.2.1 (by decide)⟩
  · obtain ⟨t, ht, rfl⟩ := List.mem_map.mp hp
    exact ok.wks t (conf_sub ht)
  · obtain ⟨t, ht, rfl⟩ := List.mem_map.mp hp
    exact hL t (conf_sub ht)
theorem by_density (T : Txt W.K W.mg a) : BodyOk W 6 N_Yard_density "Yard.density" s_Yard_density (spW false (bYS a.Yard a.Ratio fun y ss => .d (ratQ a.Ratio (wtS y ss / (spS y ss : Rat))))) := by
  refine body_W (n := 2) (m := 0) rfl (fun rs k ⟨_, _, _, h, _⟩ => by rw [h]; rfl) fun f cdv A outer s H E hr => ⟨_, (pss_one (ps_ret (pe_mt T.o_Ratio.cls (mt_over T) hr (by decide) (pe_mt T.o_Yard.cls (my_weight T) hr (by decide) (pv 0) (pa_cons (pv 1) pa_nil)) (pa_cons (pe_mt T.o_Yard.cls (my_speed_of T) hr (by decide) (pv 0) (pa_cons (pv 1) pa_nil)) pa_nil)))), fun π rs kr hp hB => ?_⟩
  obtain ⟨y, x, ss, rfl, ok, n, hl, hs, q⟩ := hB
  dsimp only [uns, List.replicate, List.cons_append, List.nil_append]
  obtain ⟨p1, p2⟩ := spS_pos ok hs
  repeat walk_at "wk"
  refine ⟨⟨_, rfl, rfl⟩, ?_⟩
  repeat walk_at "wk"
  refine wcb_ys rfl ok n hl hs (by intro z; cases z) ?_
  refine ⟨⟨_, rfl, rfl⟩, ?_⟩
  repeat walk_at "wk"
  refine ⟨⟨_, rfl, rfl⟩, ?_⟩
  repeat walk_at "wk"
  refine wcb_ys rfl ok n hl hs (by intro z; cases z) ?_
  repeat walk_at "wk"
  have zs : Sz 4000 (spS y ss) := sz_lit (by
    have : (spS y ss).natAbs < 1000000 := by omega
    omega)
  refine wcb_W0 (rs := [.d (ratQ a.Ratio (wtS y ss)), .d (.int (spS y ss))]) rfl rfl ⟨wtS y ss, .int (spS y ss), (spS y ss : Rat), rfl, .int _, wtS_sz ok ss, ⟨zs, sz_1 (by decide)⟩, fun z => ?_, fun z => (by cases z), out_d q⟩
  have : (spS y ss : Rat).num = 0 := by rw [z]; rfl
  rw [int_num] at this
  omega
theorem my_density (T : Txt W.K W.mg a) : Mt W 7 a.Yard "density" (spW false (bYS a.Yard a.Ratio fun y ss => .d (ratQ a.Ratio (wtS y ss / (spS y ss : Rat))))) := mt_W T.d_Yard_density sc_Yard_density bd_Yard_density (fun rs k ⟨_, _, _, h, _⟩ => by rw [h]; rfl) (by_density T)
theorem myk_density (T : Txt W.K W.mg a) : MtK W 7 a.Yard "density" 1 ["servers"] (spW false (bYS a.Yard a.Ratio fun y ss => .d (ratQ a.Ratio (wtS y ss / (spS y ss : Rat))))) := mtk_of T.d_Yard_density sc_Yard_density (fun _ _ _ _ _ _ us ws l1 l2 => match us, ws, l1, l2 with | [_], [_], _, _ => rfl) (len_W (n := 2) (fun rs k ⟨_, _, _, h, _⟩ => by rw [h]; rfl)) (by_density T)
theorem pp_total (T : Txt W.K W.mg a) : Pp W 6 a.Yard "total" (spW false fun rs k => ∃ y, rs = [.d (yd a.Yard a.Ratio y)] ∧ YOk y ∧ k (.d (ratQ a.Ratio (y.tk.map fun t => t.2.1).sum))) := by
  refine pp_W T.d_Yard_total sc_Yard_total bd_Yard_total (fun rs k ⟨_, h, _⟩ => by rw [h]; rfl) (body_W (n := 1) (m := 0) rfl (fun rs k ⟨_, h, _⟩ => by rw [h]; rfl) fun f cdv A outer s H E hr => ⟨_, (pss_one (ps_ret (pe_cl (k_sum_of T) hr (by decide) rfl (pa_cons (pe_listVals rfl (by rfl) T.b_list (pe_fldK (K := W.K) rfl (pv 0) rfl) rfl rfl rfl) pa_nil)))), fun π rs kr hp hB => ?_⟩)
  obtain ⟨y, rfl, ok, q⟩ := hB
  dsimp only [uns, List.replicate, List.cons_append, List.nil_append]
  have cY := T.o_Yard.cls
  have nW := T.n_Yard_works
  have hlt := ok.tkl
  obtain ⟨L, L0, zL, hL⟩ := ok.den
  repeat walk_at "wk"
  refine ⟨_, rfl, ?_⟩
  have e : (wkD a.Ratio y.tk).map (·.2) = (y.tk.map fun t => t.2.1).map (ratQ a.Ratio) := by
    unfold wkD
    rw [List.map_map, List.map_map]
    rfl
  rw [e]
  repeat walk_at "wk"
  refine wcb_sum_of rfl (.rats _) (by rw [List.length_map, List.length_map]; omega) (fun p hp => ?_) L0 (sz_mono zL (by decide)) (fun p hp => ?_) (out_d q)
  · obtain ⟨t, ht, rfl⟩ := List.mem_map.mp hp
    exact sz_mono (ok.wks t ht) (by decide)
  · obtain ⟨t, ht, rfl⟩ := List.mem_map.mp hp
    exact hL t ht
theorem my_tasks (T : Txt W.K W.mg a) : Mt W 1 a.Yard "tasks" (spW false fun rs k => ∃ y, rs = [.d (yd a.Yard a.Ratio y)] ∧ k (.new (.lst (y.tk.map fun t => .str t.1)))) := by
  refine mt_W T.d_Yard_tasks sc_Yard_tasks bd_Yard_tasks (fun rs k ⟨_, h, _⟩ => by rw [h]; rfl) (body_W (n := 1) (m := 0) rfl (fun rs k ⟨_, h, _⟩ => by rw [h]; rfl) fun f cdv A outer s H E hr => ⟨_, (pss_one (ps_ret (pe_callTy (r := rListR) (call_listR rfl) (by rfl) T.b_list (by decide +kernel) (pa_cons (pe_fldK (K := W.K) rfl (pv 0) rfl) pa_nil)))), fun π rs kr hp hB => ?_⟩)
  obtain ⟨y, rfl, q⟩ := hB
  dsimp only [uns, List.replicate, List.cons_append, List.nil_append]
  have cY := T.o_Yard.cls
  have nW := T.n_Yard_works
  have e : ((wkD a.Ratio y.tk).map fun p => dKey p.1) = y.tk.map fun t => .str t.1 := by
    unfold wkD
    rw [List.map_map]
    rfl
  rw [← e] at q
  repeat walk_at "wk"
  exact q
end Lw
namespace Dt
open PySem PySem.Spec PyProof.Rows L2 Ly GR
section
variable {π : Po} {δ : List Rv} {k : Rv → Prop} {ta : TE} {ts : List TE}
theorem w_fmtI (q : Wp π ta δ fun r => ∃ i : Int, r = .d (.int i) ∧ Sz 1900 i ∧ k (.d (.str (It i)))) : Wp π (tFmt ta) δ k := fun X H σ Q o e h => by
  refine q X H σ _ o e fun v r H1 k1 a w => ?_
  obtain ⟨i, rfl, z, kk⟩ := w
  cases a
  exact i_fmt_i z (h _ (.d (.str (It i))) H1 k1 (At.str _) kk)
def WpJ (π : Po) (ts : List TE) (acc : Str) (δ : List Rv) (k : Str → Prop) : Prop := ∀ (X : Xs) (H : Hp) (σ : L2.St) (Q : Str → Hp → Prop), Ok π X H → Ev π X H σ δ → (∀ s H', Kp π H H' → k s → Q s H') → tJs ts acc σ H Q
theorem wj_nil {acc : Str} {k : Str → Prop} (q : k acc) : WpJ π [] acc δ k := fun X H σ Q o e h => h acc H o.kp q
theorem wj_cons {acc : Str} {k : Str → Prop} (q : Wp π ta δ fun r => ∃ y : Str, r = .d (.str y) ∧ (acc ++ y).length ≤ sizeLine ∧ WpJ π ts (acc ++ y) δ k) : WpJ π (ta :: ts) acc δ k := fun X H σ Q o e h => by
  refine q X H σ _ o e fun v r H1 k1 a w => ?_
  obtain ⟨y, rfl, z, w⟩ := w
  cases a
  exact ⟨y, rfl, z, w X H1 σ Q (o.keep k1) (e.keep o k1) fun s H' k2 ks => h s H' (k1.trans k2) ks⟩
theorem w_joined (q : WpJ π ts Str.empty δ fun s => k (.d (.str s))) : Wp π (fun σ H Q => tJs ts Str.empty σ H fun out H1 => Q (.str out) H1) δ k := fun X H σ Q o e h => q X H σ _ o e fun s H' k1 ks => h (.str s) (.d (.str s)) H' k1 (At.str s) ks
end
/-- the text of a fraction's repr -/
def rtx (q : Rat) : Str := Str.empty ++ "Ratio(" ++ It q.num ++ ", " ++ It (q.den : Int) ++ ")"
def bRepr (C : Addr) (rs : List Rv) (k : Rv → Prop) : Prop := ∃ q, rs = [.d (ratQ C q)] ∧ SzQ 1900 q ∧ k (.d (.str (rtx q)))
def rhoQ (C : Addr) (d : D) (t : Str) : Prop := ∃ q, d = ratQ C q ∧ SzQ 1900 q ∧ t = rtx q
theorem rho_of {X : Cx} {k : Nat} {C : Addr} (h : Mt ⟨X.prog, X.w, X.K, X.mg, X.base⟩ k C "__repr__" (spW false (bRepr C))) : RhoOk X k (rhoQ C) := by
  intro C' fs t hρ pins σ H0 p at_
  obtain ⟨q, e, z, rfl⟩ := hρ
  obtain ⟨f, fd, ps, hm, F, hb⟩ := h.ex
  have a0 := at_
  cases at_ with
  | obj e1 e2 t2 =>
    have eC : C' = C := by injection e
    subst eC
    refine ShV.own F hb hm.at_ hm.fn e1 fun H S => ?_
    have mo : Mo H0 (cut (fun _ => False) H) := .of fun a o e => cut_of (fun z => z) (S a o e)
    rw [e] at a0
    refine ⟨none, fun _ => False, [.d (ratQ C' q)], fun r => r = .d (.str (rtx q)), rfl, ⟨fun _ z => z.elim, fun _ z => nomatch z⟩, rfl, ⟨a0.mono mo, trivial⟩, ⟨q, rfl, z, rfl⟩, fun v r H' k1 _ a kr => ?_⟩
    subst kr
    cases a
    exact ⟨rfl, k1.same⟩
end Dt
namespace Lw
open PySem PySem.Spec PyProof.Rows L2 Ly Dt
local macro_rules | `(tactic| walk_at "wk") => `(tactic| first
  | ((with_reducible refine' w_var ?hv ?hn ?_); (case hv => exact rfl); (case hn => (intro z; cases z)))
  | with_reducible refine w_int ?_
  | with_reducible refine w_str ?_
  | with_reducible refine w_op ?_
  | with_reducible refine wa_cons ?_
  | with_reducible refine wa_nil ?_
  | with_reducible refine w_reprL ?_
  | with_reducible refine w_isi2 ?_
  | with_reducible refine w_cb ?_
  | with_reducible refine w_call ?_
  | ((with_reducible refine' ws_retV ?hv ?_); (case hv => exact rfl))
  | with_reducible refine ws_seq ?_
  | with_reducible refine ws_asg ?_
  | with_reducible refine ws_ret ?_
  | with_reducible refine ws_if ?_
  | with_reducible refine ws_next ?_
  | ((with_reducible refine' ws_append ?hv ?hz ?_); (case hv => exact rfl); rotate_left)
  | with_reducible refine ws_drop ?_
  | with_reducible refine ws_retN ?_
  | ((with_reducible refine wg_d ?_); dsimp only [List.set])
  | ((with_reducible refine wg_raw ?_); dsimp only [List.set])
  | ((with_reducible refine wg_E ?_))
  | ((with_reducible refine' we_tup ?hl ?_); (case hl => exact rfl))
  | with_reducible refine wes_cons ?_
  | with_reducible refine wes_nil ?_
  | ((with_reducible refine we_name ?_); dsimp only [List.set])
  | with_reducible refine out_d ?_
  | with_reducible refine out_new ?_
  | with_reducible refine ex_bl ?_
  | with_reducible refine ite_t ?_
  | ((with_reducible refine ex_fzd ?_); dsimp only [List.set, List.nil_append, List.cons_append])
  | ((with_reducible refine ex_fzn ?_); dsimp only [List.set, List.nil_append, List.cons_append])
  | with_reducible refine ite_nt ?_
  | with_reducible refine ite_nf ?_
  | with_reducible refine ite_f ?_
  | with_reducible refine wt_tb ?_
  | with_reducible refine wt_test ?_
  | with_reducible refine wt_and ?_
  | with_reducible refine wt_or ?_
  | with_reducible refine wt_not ?_
  | with_reducible refine w_andV ?_
  | with_reducible refine w_orV ?_
  | with_reducible refine w_notV ?_
  | with_reducible refine w_if ?_
  | with_reducible refine w_bl ?_
  | with_reducible refine w_non ?_
  | with_reducible refine w_ty ?_
  | with_reducible refine w_ref ?_
  | with_reducible refine w_un ?_
  | ((with_reducible refine w_tup ?_); skip)
  | ((with_reducible refine w_lst ?_); skip)
  | ((with_reducible refine' Exists.intro _ (And.intro ?hf (And.intro ?hl ?_))); (case hf => exact rfl); (case hl => exact Nat.le_of_ble_eq_true rfl))
  | with_reducible refine w_fld ?_
  | ((with_reducible refine' fld_of ?ho ?c ?n ?l ?_); (case ho => exact rfl); (case c => assumption); (case n => with_reducible assumption); (case l => exact rfl))
  | with_reducible refine wp_top ?_
  | with_reducible refine wp_bot ?_
  | with_reducible refine w_prop ?_
  | with_reducible refine w_meth ?_
  | with_reducible refine w_smeth ?_
  | with_reducible refine wop_addI ?_
  | with_reducible refine wop_subI ?_
  | ((with_reducible refine' wop_mulI ?c ?_); rotate_left)
  | ((with_reducible refine' wop_fdI ?c ?_); rotate_left)
  | with_reducible refine wop_mdI (by first | decide | assumption) ?_
  | ((with_reducible refine' wop_mdI ?c ?_); rotate_left)
  | ((with_reducible refine' wop_I0 ?e ?_); (case e => exact rfl))
  | ((with_reducible refine' wop_ixT ?e ?_); (case e => exact rfl))
  | ((with_reducible refine' wcb_lenL ?e ?_); (case e => exact rfl))
  | with_reducible refine wcb_lenT ?_
  | ((with_reducible refine' wop_fdX ?c ?_); rotate_left)
  | ((with_reducible refine' wun_U ?e ?_); (case e => exact rfl))
  | with_reducible refine wop_eqI ?_
  | with_reducible refine wop_neI ?_
  | with_reducible refine wop_eqS ?_
  | with_reducible refine wop_neS ?_
  | with_reducible refine wop_isN ?_
  | with_reducible refine wop_notN ?_
  | ((with_reducible refine' wop_inS ?e ?_); (case e => exact rfl))
  | ((with_reducible refine' wop_niS ?e ?_); (case e => exact rfl))
  | with_reducible refine wop_inST ?_
  | with_reducible refine wcb_gcd ?_
  | with_reducible refine wcb_abs ?_
  | with_reducible refine wcb_max2 ?_
  | with_reducible refine wcb_min2 ?_
  | with_reducible refine wcb_int ?_
  | ((with_reducible refine' wcb_isi (b := true) ?ho ?hb ?_); (case ho => exact rfl); (case hb => (dsimp only [tyN]; decide +kernel)))
  | ((with_reducible refine' wcb_isi (b := false) ?ho ?hb ?_); (case ho => exact rfl); (case hb => (dsimp only [tyN]; decide +kernel)))
  | ((with_reducible refine' wcb_listOf ?e ?_); (case e => exact rfl))
  | with_reducible refine wcb_listOfT ?_
  | ((with_reducible refine' wcb_tupOf ?e ?_); (case e => exact rfl))
  | with_reducible refine w_chain ?_
  | with_reducible refine wcb_strS ?_
  | ((with_reducible refine' wcb_lenD ?e ?_); (case e => exact rfl))
  | ((with_reducible refine' wcb_listD ?e ?_); (case e => exact rfl))
  | with_reducible refine w_dnewK ?_
  | with_reducible refine w_dget ?_
  | with_reducible refine w_din ?_
  | with_reducible refine w_dni ?_
  | with_reducible refine w_lenSet ?_
  | with_reducible refine w_listVals ?_
  | with_reducible refine w_chain ?_
  | ((with_reducible refine' wt_yes ?_)))
variable {W : Wd} {a : Ad}
theorem mt_rrepr (T : Txt W.K W.mg a) : Mt W 1 a.Ratio "__repr__" (spW false (bRepr a.Ratio)) := by
  refine mt_W T.d_Ratio_repr sc_Ratio_repr bd_Ratio_repr (fun rs k ⟨_, h, _⟩ => by rw [h]; rfl) (body_W (n := 1) (m := 0) rfl (fun rs k ⟨_, h, _⟩ => by rw [h]; rfl) fun f cdv A outer s H E hr => ⟨_, (pss_one (ps_ret (pe_joined (.cons pe_str (.cons (pe_fmt (pe_fldK (K := W.K) rfl (pv 0) rfl)) (.cons pe_str (.cons (pe_fmt (pe_fldK (K := W.K) rfl (pv 0) rfl)) (.cons pe_str .nil)))))))), fun π rs kr hp hB => ?_⟩)
  obtain ⟨q, rfl, z, h⟩ := hB
  dsimp only [uns, List.replicate, List.cons_append, List.nil_append]
  have cR := T.o_Ratio.cls
  have nT := T.n_Ratio_top
  have nB := T.n_Ratio_bottom
  have l1 := it_len z.1
  have l2 := it_len z.2
  have c0 : Str.empty.length = 0 := by decide
  have c1 : (Str.ofString "Ratio(").length = 6 := by decide
  have c2 : (Str.ofString ", ").length = 2 := by decide
  have c3 : (Str.ofString ")").length = 1 := by decide
  repeat walk_at "wk"
  refine w_joined (wj_cons ?_)
  repeat walk_at "wk"
  refine wj_cons (w_fmtI ?_)
  repeat walk_at "wk"
  refine ⟨_, rfl, z.1, _, rfl, sl_of (by rw [strLen_append, strLen_append]; omega), wj_cons ?_⟩
  repeat walk_at "wk"
  refine ⟨_, rfl, sl_of (by rw [strLen_append, strLen_append, strLen_append]; omega), wj_cons (w_fmtI ?_)⟩
  repeat walk_at "wk"
  refine ⟨_, rfl, z.2, _, rfl, sl_of (by rw [strLen_append, strLen_append, strLen_append, strLen_append]; omega), wj_cons ?_⟩
  repeat walk_at "wk"
  exact ⟨_, rfl, sl_of (by rw [strLen_append, strLen_append, strLen_append, strLen_append, strLen_append]; omega), wj_nil (out_d h)⟩
end Lw
namespace Lw
open PySem PySem.Spec PyProof.Rows L2 Ly
local macro_rules | `(tactic| walk_at "rd") => `(tactic| first
  | ((with_reducible refine' i_var ?hv ?_); (case hv => exact rfl))
  | with_reducible refine i_c ?_
  | with_reducible refine i_op ?_
  | with_reducible refine i_cons ?_
  | with_reducible refine i_nil ?_
  | with_reducible refine i_cb ?_
  | with_reducible refine i_call ?_
  | with_reducible refine i_I0 ?_
  | with_reducible refine i_add_i ?_
  | with_reducible refine i_sub_i ?_
  | with_reducible refine i_md_i (by first | decide | assumption) ?_
  | ((with_reducible refine' i_md_i ?c ?_); rotate_left)
  | ((with_reducible refine' i_mul_i ?c ?_); rotate_left)
  | with_reducible refine i_fd_i (by decide) ?_
  | ((with_reducible refine' i_fd_i ?c ?_); rotate_left)
  | with_reducible refine i_int ?_
  | with_reducible refine i_abs ?_
  | with_reducible refine i_max2 ?_
  | with_reducible refine i_min2 ?_
  | with_reducible refine i_gcd ?_
  | with_reducible refine i_seq ?_
  | with_reducible refine i_if ?_
  | with_reducible refine i_asg ?_
  | with_reducible refine i_ret ?_
  | with_reducible refine i_drop ?_
  | with_reducible refine i_next ?_
  | with_reducible refine i_un ?_
  | with_reducible refine i_U ?_
  | ((with_reducible refine i_gname ?_); dsimp only [List.set])
  | with_reducible refine i_test ?_
  | with_reducible refine i_not ?_
  | with_reducible refine i_or ?_
  | with_reducible refine i_and ?_
  | with_reducible refine i_tb ?_
  | with_reducible refine i_andV ?_
  | with_reducible refine i_orV ?_
  | with_reducible refine i_notV ?_
  | with_reducible refine i_ifx ?_
  | with_reducible refine i_ext ?_
  | with_reducible refine i_exf ?_
  | with_reducible refine i_exn ?_
  | with_reducible refine i_itt ?_
  | with_reducible refine i_itf ?_
  | with_reducible refine i_gsub ?_
  | with_reducible refine i_nt ?_
  | with_reducible refine i_tup ?_
  | with_reducible refine i_lst ?_
  | with_reducible refine i_nf ?_
  | with_reducible refine i_isint ?_
  | ((with_reducible refine' i_top ?r ?_); (case r => walk_at "hp"))
  | ((with_reducible refine' i_bot ?r ?_); (case r => walk_at "hp"))
  | with_reducible refine i_fld ?_
  | with_reducible refine i_sfld ?_
  | with_reducible refine i_pp ?_
  | with_reducible refine i_meth ?_
  | with_reducible refine i_smeth ?_
  | with_reducible refine i_make ?_
  | with_reducible refine i_sl ?_
  | with_reducible refine i_noPart ?_
  | with_reducible refine i_part ?_
  | with_reducible refine i_smethK ?_
  | with_reducible refine i_sk1 ?_
  | with_reducible refine i_makeK ?_
  | with_reducible refine i_methK ?_
  | with_reducible refine i_mk11 ?_
  | ((with_reducible refine' i_rmk ?r ?h1 ?h2 ?_); (case r => walk_at "hp"); (case h1 => decide +kernel); (case h2 => decide +kernel))
  | with_reducible refine i_tpar ?_
  | ((with_reducible refine i_rpar ?_); dsimp only [List.set])
  | with_reducible refine i_eq_s rfl ?_
  | with_reducible refine i_ne_s rfl ?_
  | ((with_reducible refine' i_rtop ?r ?c ?n ?_); (case r => walk_at "hp"); (case c => assumption); (case n => assumption))
  | ((with_reducible refine' i_rbot ?r ?c ?n ?_); (case r => walk_at "hp"); (case c => assumption); (case n => assumption))
  | ((with_reducible refine' i_rpp ?r ?_); (case r => walk_at "hp"))
  | ((with_reducible refine' i_rmeth ?r ?h1 ?h2 ?_); (case r => walk_at "hp"); (case h1 => decide +kernel); (case h2 => decide +kernel))
  | ((with_reducible refine' i_ix_l ?hp ?ha ?_); (case hp => walk_at "hp"); (case ha => exact rfl))
  | ((with_reducible refine' i_len_l ?hp ?_); (case hp => walk_at "hp"))
  | ((with_reducible refine' i_ix_f0 ?hp ?_); (case hp => walk_at "hp"))
  | ((with_reducible refine' i_ix_f1 ?hp ?_); (case hp => walk_at "hp"))
  | ((with_reducible refine' i_ix_t ?hp ?ha ?_); (case hp => walk_at "hp"); (case ha => exact rfl)))
local macro_rules | `(tactic| walk_at "hp") => `(tactic| first
  | assumption
  | exact upd_same
  | exact SqL.of (by assumption)
  | (refine' Dr.tup (by assumption) ?hq; (case hq => walk_at "hp"))
  | (refine' FrL.same (by assumption) ?hq; (case hq => walk_at "hp"))
  | (refine' FracAt.same (by assumption) ?hq; (case hq => walk_at "hp"))
  | (refine' FracAt.nl (by assumption) ?hq; (case hq => walk_at "hp"))
  | (refine' RatAt.nl (by assumption) ?hq; (case hq => walk_at "hp"))
  | (refine' Num.nl (by assumption) ?hq; (case hq => walk_at "hp"))
  | (refine' FracAt.pk (by assumption) ?hq; (case hq => walk_at "hp"))
  | (refine' RatAt.pk (by assumption) ?hq; (case hq => walk_at "hp"))
  | (refine' Num.pk (by assumption) ?hq; (case hq => walk_at "hp"))
  | (refine' Dr.keep (by assumption) _ _ (by assumption) ?hq; (case hq => walk_at "hp"))
  | (refine' (show Same _ _ by assumption) _ _ ?hq; (case hq => walk_at "hp"))
  | (refine' RatAt.same (by assumption) ?hq; (case hq => walk_at "hp"))
  | (refine' Num.same (by assumption) ?hq; (case hq => walk_at "hp")))
local macro_rules | `(tactic| walk_at "sm") => `(tactic| first
  | assumption
  | exact Same.refl _
  | (refine' Same.kl (by assumption) (by assumption) ?aa; (case aa => walk_at "sm"))
  | (refine' Same.trans ?aa (by assumption); (case aa => walk_at "sm")))
local macro_rules | `(tactic| walk_at "dr") => `(tactic| first
  | assumption
  | (refine' Dr.same ?aa (by assumption); (case aa => walk_at "dr"))
  | (refine' Dr.trans ?aa (by assumption); (case aa => walk_at "dr")))
variable {W : Wd} {a : Ad}
def spMixed : Sp := fun vs H Q _ => ∃ (p s : Addr) (xs : List V), vs = [.ref p, .ref s] ∧ Pot H p ∧ s ≠ p ∧ H s = some (.lst xs) ∧ xs.length ≤ 1000 ∧ ∀ r H' ys, H r = none → Dr p H H' → H' r = some (.lst ys) → ys.Perm xs → Q (.ref r) H'
theorem k_law_mixed (T : Txt W.K W.mg a) : Cl W 2 "_law_mixed" spMixed := by
  refine cl_of' T.d_law_mixed sc_law_mixed bd_law_mixed (fun vs H Q E ⟨p, s, xs, h, _⟩ => by rw [h]; rfl) fun f cdv A outer s0 H vs Q E hr h => ?_
  obtain ⟨p, s, xs, rfl, hp, hs, he, hz, q⟩ := h
  refine ⟨_, (pss_cons (ps_set (i := 2) sc_law_mixed.nd rfl (Or.inr rfl) (pe_callTy (r := rListOf W.K) call_listU (by rfl) T.b_list (by decide +kernel) (pa_cons (pv 1) pa_nil))) (pss_one (ps_ret (pe_lc (own := [("_law_turn", 3)]) (g := (gName 3)) (tt := tYes) rfl sc_law_mixed.nd (pi_range1 rfl T.b_range (pa_cons (pe_callB (r := Ly.rLen W.K) call_lenU (by rfl) T.b_len (by decide +kernel) (pa_cons (pv 1) pa_nil)) pa_nil)) (blkOk_by (N := N_law_mixed) (sc := defScope s_law_mixed) (by decide +kernel)) (fun _ _ _ _ _ => (pg_name (i := 3) sc_law_mixed.nd rfl (Or.inl rfl))) (fun _ _ _ _ _ => pts_nil) (fun _ _ _ _ _ => (pe_bmK (K := W.K) rfl PySem.F.plainAttrs_list PySem.F.slot_list_pop PySem.F.type_list_pop mt_popAt (pv 2) (pa_cons (pe_cl (k_law_draw T) hr (by decide) rfl (pa_cons (pv 0) (pa_cons (pe_callB (r := Ly.rLen W.K) call_lenU (by rfl) T.b_len (by decide +kernel) (pa_cons (pv 2) pa_nil)) pa_nil))) pa_nil))))))), ?_⟩
  refine i_start (σ' := [some (V.ref p), some (V.ref s), none, none]) rfl ?_
  repeat walk_at "rd"
  refine i_listL he fun l H1 nl hl s1 => ?_
  repeat walk_at "rd"
  refine i_lcr ?_
  repeat walk_at "rd"
  have np : l ≠ p := fresh_ne hp nl
  refine ⟨_, rfl, by omega, by omega, fun D nD => ?_⟩
  have hp1 := hp.same s1
  have nDp : D ≠ p := fresh_ne hp1 nD
  have nDl : D ≠ l := fun z => by rw [z, hl] at nD; cases nD
  refine lc_range (lo := 0) (n := (xs.length : Int).toNat) (fun i H' => ∃ ys zs : List V, H' D = some (.lst ys) ∧ H' l = some (.lst zs) ∧ ys.length = i ∧ (ys ++ zs).Perm xs ∧ (∀ c o, c ≠ p → c ≠ l → c ≠ D → H1 c = some o → H' c = some o) ∧ Pot H' p) ⟨[], xs, upd_same, by rw [upd_ne (fun z => nDl z.symm)]; exact hl, rfl, List.Perm.refl _, fun c o _ _ n e => by rw [upd_ne n]; exact e, hp1.same (same_upd nD)⟩ ?_ ?_
  · rintro i H' hi ⟨ys, zs, hD, hz', hy, pm, fr, po⟩
    refine ⟨rfl, ?_⟩
    dsimp only [List.map, wipe, List.set]
    have hl2 := pm.length_eq
    rw [List.length_append] at hl2
    have hzp : 0 < zs.length := by omega
    refine i_yes ?_
    refine i_itt ?_
    refine i_tBM ?_
    repeat walk_at "rd"
    refine ⟨ty_lst hz', ?_⟩
    repeat walk_at "rd"
    refine i_draw po (by omega) ?_ fun d H2 d0 d1 k2 => ?_
    · refine sz_lit ?_
      omega
    repeat walk_at "rd"
    have hz2 := k2.keep l _ np hz'
    have hD2 := k2.keep D _ nDp hD
    obtain ⟨k, rfl⟩ : ∃ k : Nat, d = (k : Int) := ⟨d.toNat, by omega⟩
    have hk : k < zs.length := by omega
    refine i_popAt (v := zs[k]) hz2 (by omega) (List.getElem?_eq_getElem hk) fun H3 _ k3 h3 => ?_
    have hD3 := k3 D _ nDl hD2
    refine ⟨ys, hD3, by rw [hy]; exact small1000 (by omega), ys ++ [zs[k]], zs.eraseIdx k, upd_same, by rw [upd_ne (fun z => nDl z.symm)]; exact h3, by rw [List.length_append, hy]; rfl, ?_, fun c o n1 n2 n3 e => ?_, ?_⟩
    · refine List.Perm.trans ?_ pm
      rw [List.append_assoc]
      refine List.Perm.append_left ys ?_
      exact erase_perm hk
    · rw [upd_ne n3]
      exact k3 c o n2 (k2.keep c o n1 (fr c o n1 n2 n3 e))
    · obtain ⟨a1, b1, e, ok⟩ := k2.pot'
      exact ⟨a1, b1, by rw [upd_ne (fun z => nDp z.symm)]; exact k3 p _ (fun z => np z.symm) e, ok⟩
  · rintro H' ⟨ys, zs, hD, hz', hy, pm, fr, po⟩
    have e0 : zs = [] := by
      have hl2 := pm.length_eq
      rw [List.length_append] at hl2
      exact List.eq_nil_of_length_eq_zero (by omega)
    rw [e0, List.append_nil] at pm
    refine q D H' ys (s1.free nD) ⟨fun c o n e => ?_, hp, po⟩ hD pm
    have e1 := s1 c o e
    exact fr c o n (fun z => by rw [z, nl] at e; cases e) (fun z => by rw [z, nD] at e1; cases e1) e1
end Lw
namespace Ly
open PySem PySem.Spec PyProof.Rows L2
structure Nm (x : Str) : Prop where
  pos : 1 ≤ x.length
  len : x.length ≤ 8
  abc : ∀ c ∈ x.cps.toList, 97 ≤ c ∧ c ≤ 122
def spNamed : Sp := fun vs H Q _ => ∃ (p tk : Addr) (n : Int) (taken : List Str), vs = [.ref p, .int n, .ref tk] ∧ Pot H p ∧ tk ≠ p ∧ H tk = some (.lst (taken.map V.str)) ∧ 0 ≤ n ∧ n.toNat + taken.length < 100 ∧
  ∀ r H' (ys : List Str), H r = none → Dr p H H' → H' r = some (.lst (ys.map V.str)) → ys.length = n.toNat → ys.Nodup → (∀ y ∈ ys, Nm y ∧ y ∉ taken) → Q (.ref r) H'
theorem nodup_sub {α : Type} [DecidableEq α] : ∀ {L M : List α}, L.Nodup → (∀ x ∈ L, x ∈ M) → L.length ≤ M.length
  | [], _, _, _ => Nat.zero_le _
  | x :: L, M, h, k => by
    have hx : x ∈ M := k x (List.mem_cons_self ..)
    have hn := List.nodup_cons.mp h
    have e := List.length_erase_of_mem hx
    have p : 0 < M.length := List.length_pos_of_mem hx
    have ih := nodup_sub (M := M.erase x) hn.2 fun y hy => (List.mem_erase_of_ne (fun z => hn.1 (by rw [← z]; exact hy))).mpr (k y (List.mem_cons_of_mem _ hy))
    rw [List.length_cons]
    omega
def sp (x : Str) (i : Nat) : Str := x ++ ⟨#[97 + i % 26]⟩ ++ ⟨#[97 + i / 26]⟩
theorem sp_cps (x : Str) (i : Nat) : (sp x i).cps.toList = x.cps.toList ++ [97 + i % 26] ++ [97 + i / 26] := by
  unfold sp
  rw [app_toList, app_toList]
theorem sp_inj {x : Str} {i j : Nat} (h : sp x i = sp x j) : i = j := by
  have e := congrArg (fun z : Str => z.cps.toList) h
  simp only [sp_cps] at e
  have e1 := List.append_inj' e rfl
  have e2 := List.append_inj' e1.1 rfl
  have a1 := (List.cons.inj e1.2).1
  have a2 := (List.cons.inj e2.2).1
  omega
theorem sp_nodup (x : Str) (n : Nat) : ((List.range n).map (sp x)).Nodup := by
  unfold List.Nodup
  rw [List.pairwise_map]
  exact List.nodup_range.imp fun h e => h (sp_inj e)
/-- a value by its text -/
def sP (P : Str → Bool) : V → Bool
  | .str x => P x
  | _ => false
theorem filt_strs (P : Str → Bool) (L : List Str) : (L.map V.str).filter (sP P) = (L.filter P).map V.str := by
  induction L with
  | nil => rfl
  | cons x L ih =>
    by_cases h : P x = true
    · have h2 : sP P (V.str x) = true := h
      simp [h, h2, ih]
    · have h2 : ¬ sP P (V.str x) = true := h
      simp [h, h2, ih]
/-- a letter as a text -/
def Let (v : V) : Prop := ∃ c, v = .str ⟨#[c]⟩ ∧ 97 ≤ c ∧ c ≤ 122
theorem lets : ∀ (ys : List V), (∀ (i : Nat) (v : V), ys[i]? = some v → Let v) → ∃ cs : List Nat, ys = cs.map (fun c => V.str ⟨#[c]⟩) ∧ ∀ c ∈ cs, 97 ≤ c ∧ c ≤ 122
  | [], _ => ⟨[], rfl, fun c h => by cases h⟩
  | y :: ys, h => by
    obtain ⟨c, e, h1, h2⟩ := h 0 y rfl
    obtain ⟨cs, e2, h3⟩ := lets ys fun i v k => h (i + 1) v k
    refine ⟨c :: cs, by rw [e, e2]; rfl, fun d hd => ?_⟩
    rcases List.mem_cons.mp hd with rfl | hd
    · exact ⟨h1, h2⟩
    · exact h3 d hd
theorem join_lets (cs : List Nat) : (Txt.join ("" : Str) (cs.map fun c => (⟨#[c]⟩ : Str))).cps.toList = cs := by
  rw [TL.join_eq, show ("" : Str) = ⟨#[]⟩ by decide +kernel]
  induction cs with
  | nil => rfl
  | cons c cs ih =>
    rw [List.map_cons, PyProof.Rows.join_nil_cons, app_toList, ih]
    rfl
end Ly
namespace Lw
open PySem PySem.Spec PyProof.Rows L2 Ly
local macro_rules | `(tactic| walk_at "rd") => `(tactic| first
  | ((with_reducible refine' i_var ?hv ?_); (case hv => exact rfl))
  | with_reducible refine i_c ?_
  | with_reducible refine i_op ?_
  | with_reducible refine i_cons ?_
  | with_reducible refine i_nil ?_
  | with_reducible refine i_cb ?_
  | with_reducible refine i_call ?_
  | with_reducible refine i_I0 ?_
  | with_reducible refine i_add_i ?_
  | with_reducible refine i_sub_i ?_
  | with_reducible refine i_md_i (by first | decide | assumption) ?_
  | ((with_reducible refine' i_md_i ?c ?_); rotate_left)
  | ((with_reducible refine' i_mul_i ?c ?_); rotate_left)
  | with_reducible refine i_fd_i (by decide) ?_
  | ((with_reducible refine' i_fd_i ?c ?_); rotate_left)
  | with_reducible refine i_int ?_
  | with_reducible refine i_abs ?_
  | with_reducible refine i_max2 ?_
  | with_reducible refine i_min2 ?_
  | with_reducible refine i_gcd ?_
  | with_reducible refine i_seq ?_
  | with_reducible refine i_if ?_
  | with_reducible refine i_asg ?_
  | with_reducible refine i_ret ?_
  | with_reducible refine i_drop ?_
  | with_reducible refine i_next ?_
  | with_reducible refine i_un ?_
  | with_reducible refine i_U ?_
  | ((with_reducible refine i_gname ?_); dsimp only [List.set])
  | with_reducible refine i_test ?_
  | with_reducible refine i_not ?_
  | with_reducible refine i_tb ?_
  | with_reducible refine i_andV ?_
  | with_reducible refine i_orV ?_
  | with_reducible refine i_notV ?_
  | with_reducible refine i_ifx ?_
  | with_reducible refine i_ext ?_
  | with_reducible refine i_exf ?_
  | with_reducible refine i_exn ?_
  | with_reducible refine i_itt ?_
  | with_reducible refine i_itf ?_
  | with_reducible refine i_gsub ?_
  | with_reducible refine i_nt ?_
  | with_reducible refine i_tup ?_
  | with_reducible refine i_lst ?_
  | with_reducible refine i_nf ?_
  | with_reducible refine i_isint ?_
  | ((with_reducible refine' i_top ?r ?_); (case r => walk_at "hp"))
  | ((with_reducible refine' i_bot ?r ?_); (case r => walk_at "hp"))
  | with_reducible refine i_fld ?_
  | with_reducible refine i_sfld ?_
  | with_reducible refine i_pp ?_
  | with_reducible refine i_meth ?_
  | with_reducible refine i_smeth ?_
  | with_reducible refine i_make ?_
  | with_reducible refine i_sl ?_
  | with_reducible refine i_noPart ?_
  | with_reducible refine i_part ?_
  | with_reducible refine i_smethK ?_
  | with_reducible refine i_sk1 ?_
  | with_reducible refine i_makeK ?_
  | with_reducible refine i_methK ?_
  | with_reducible refine i_mk11 ?_
  | ((with_reducible refine' i_rmk ?r ?h1 ?h2 ?_); (case r => walk_at "hp"); (case h1 => decide +kernel); (case h2 => decide +kernel))
  | with_reducible refine i_tpar ?_
  | ((with_reducible refine i_rpar ?_); dsimp only [List.set])
  | with_reducible refine i_eq_s rfl ?_
  | with_reducible refine i_ne_s rfl ?_
  | ((with_reducible refine' i_rtop ?r ?c ?n ?_); (case r => walk_at "hp"); (case c => assumption); (case n => assumption))
  | ((with_reducible refine' i_rbot ?r ?c ?n ?_); (case r => walk_at "hp"); (case c => assumption); (case n => assumption))
  | ((with_reducible refine' i_rpp ?r ?_); (case r => walk_at "hp"))
  | ((with_reducible refine' i_rmeth ?r ?h1 ?h2 ?_); (case r => walk_at "hp"); (case h1 => decide +kernel); (case h2 => decide +kernel))
  | ((with_reducible refine' i_ix_l ?hp ?ha ?_); (case hp => walk_at "hp"); (case ha => exact rfl))
  | ((with_reducible refine' i_len_l ?hp ?_); (case hp => walk_at "hp"))
  | ((with_reducible refine' i_ix_f0 ?hp ?_); (case hp => walk_at "hp"))
  | ((with_reducible refine' i_ix_f1 ?hp ?_); (case hp => walk_at "hp"))
  | ((with_reducible refine' i_ix_t ?hp ?ha ?_); (case hp => walk_at "hp"); (case ha => exact rfl)))
local macro_rules | `(tactic| walk_at "hp") => `(tactic| first
  | assumption
  | exact upd_same
  | exact SqL.of (by assumption)
  | (refine' Dr.tup (by assumption) ?hq; (case hq => walk_at "hp"))
  | (refine' FrL.same (by assumption) ?hq; (case hq => walk_at "hp"))
  | (refine' FracAt.same (by assumption) ?hq; (case hq => walk_at "hp"))
  | (refine' FracAt.nl (by assumption) ?hq; (case hq => walk_at "hp"))
  | (refine' RatAt.nl (by assumption) ?hq; (case hq => walk_at "hp"))
  | (refine' Num.nl (by assumption) ?hq; (case hq => walk_at "hp"))
  | (refine' FracAt.pk (by assumption) ?hq; (case hq => walk_at "hp"))
  | (refine' RatAt.pk (by assumption) ?hq; (case hq => walk_at "hp"))
  | (refine' Num.pk (by assumption) ?hq; (case hq => walk_at "hp"))
  | (refine' Dr.keep (by assumption) _ _ (by assumption) ?hq; (case hq => walk_at "hp"))
  | (refine' (show Same _ _ by assumption) _ _ ?hq; (case hq => walk_at "hp"))
  | (refine' RatAt.same (by assumption) ?hq; (case hq => walk_at "hp"))
  | (refine' Num.same (by assumption) ?hq; (case hq => walk_at "hp")))
local macro_rules | `(tactic| walk_at "sm") => `(tactic| first
  | assumption
  | exact Same.refl _
  | (refine' Same.kl (by assumption) (by assumption) ?aa; (case aa => walk_at "sm"))
  | (refine' Same.trans ?aa (by assumption); (case aa => walk_at "sm")))
local macro_rules | `(tactic| walk_at "dr") => `(tactic| first
  | assumption
  | (refine' Dr.same ?aa (by assumption); (case aa => walk_at "dr"))
  | (refine' Dr.trans ?aa (by assumption); (case aa => walk_at "dr")))
variable {W : Wd} {a : Ad}
def abc : Str := "abcdefghijklmnopqrstuvwxyz"
theorem abc_len : abc.length = 26 := by decide +kernel
theorem abc_at (k : Nat) (h : k < 26) : abc.cps.toList[k]? = some (97 + k) := by
  have e : abc.cps.toList = (List.range 26).map (97 + ·) := by decide +kernel
  rw [e]
  simp [h]
def NJ (p l tk : Addr) (n : Int) (taken : List Str) (H : Hp) (i : Nat) (σ : L2.St) (H' : Hp) : Prop := ∃ (v1 v2 v3 v4 v5 : Option V) (ys : List Str), σ = [some (.ref p), some (.int n), some (.ref tk), v1, some (.str abc), some (.ref l), v2, v3, v4, v5] ∧ Dr p H H' ∧ H' l = some (.lst (ys.map V.str)) ∧ ys.length = i ∧ ys.Nodup ∧ ∀ y ∈ ys, Nm y ∧ y ∉ taken
theorem k_law_named (T : Txt W.K W.mg a) : Cl W 2 "_law_named" spNamed := by
  refine cl_of' T.d_law_named sc_law_named bd_law_named (fun vs H Q E ⟨p, tk, n, taken, h, _⟩ => by rw [h]; rfl) fun f cdv A outer s0 H vs Q E hr h => ?_
  obtain ⟨p, tk, n, taken, rfl, hp, ht, he, n0, hz, q⟩ := h
  refine ⟨_, (pss_cons (ps_asg (pe_tup (pa_cons pe_str (pa_cons (pe_lst pa_nil) pa_nil))) (pg_tupK (K := W.K) (n := 2) rfl rfl (pgs_cons (pg_name (i := 4) sc_law_named.nd rfl (Or.inr rfl)) (pgs_cons (pg_name (i := 5) sc_law_named.nd rfl (Or.inr rfl)) pgs_nil)))) (pss_cons (ps_for PassesOwn.never rfl (pi_range1 rfl T.b_range (pa_cons (pv 1) pa_nil)) (pg_name (i := 3) sc_law_named.nd rfl (Or.inl rfl)) (pss_cons (ps_set (i := 6) sc_law_named.nd rfl (Or.inr rfl) (pe_joinK (K := W.K) rfl pe_str (pe_lc (own := [("_law_turn", 8)]) (g := (gName 8)) (tt := tYes) rfl sc_law_named.nd (pi_range1 rfl T.b_range (pa_cons (pe_op op_addU pe_int (pe_cl (k_law_draw T) hr (by decide) rfl (pa_cons (pv 0) (pa_cons pe_int pa_nil)))) pa_nil)) (blkOk_by (N := N_law_named) (sc := defScope s_law_named) (by decide +kernel)) (fun _ _ _ _ _ => (pg_name (i := 8) sc_law_named.nd rfl (Or.inl rfl))) (fun _ _ _ _ _ => pts_nil) (fun _ _ _ _ _ => (pe_ix (r := rIx W.K) ix_U (pv 4) (pe_cl (k_law_draw T) hr (by decide) rfl (pa_cons (pv 0) (pa_cons pe_int pa_nil))) (fun _ _ => rfl)))))) (Evl.pss_cut (ps_if (PW.pt (pw_or (pt_cmpR (r := rIn W.K false) op_in_seq (pv 6) (pv 5) rfl) (pw_or1 (pt_cmpR (r := rIn W.K false) op_in_seq (pv 6) (pv 2) rfl)))) (pss_cons (ps_setLc (i := 7) (own := [("_law_turn", 8)]) (g := (gName 8)) (tt := tYes) rfl sc_law_named.nd rfl rfl (sw_true rfl rfl rfl (by decide +kernel)) (pi_range1 rfl T.b_range (pa_cons pe_int pa_nil)) (blkOk_by (N := N_law_named) (sc := defScope s_law_named) (by decide +kernel)) (fun _ _ _ _ _ => (pg_name (i := 8) sc_law_named.nd rfl (Or.inl rfl))) (fun _ _ _ _ _ => pts_nil) (fun _ _ _ _ _ => (pe_op op_addU (pe_op op_addU (pv 6) (pe_ix (r := rIx W.K) ix_U (pv 4) (pe_op op_modU (pv 8) pe_int) (fun _ _ => rfl))) (pe_ix (r := rIx W.K) ix_U (pv 4) (pe_op op_fdivU (pv 8) pe_int) (fun _ _ => rfl))))) (pss_one (ps_set (i := 6) sc_law_named.nd rfl (Or.inr rfl) (pe_ix (r := rIx W.K) ix_U (pe_lc (own := [("_law_near", 9)]) (g := (gName 9)) (tt := _) rfl sc_law_named.nd (pi_listK (K := W.K) rfl (pv 7)) (blkOk_by (N := N_law_named) (sc := defScope s_law_named) (by decide +kernel)) (fun _ _ _ _ _ => (pg_name (i := 9) sc_law_named.nd rfl (Or.inl rfl))) (fun _ _ _ _ _ => (pts_one (PW.pt (pw_and (pt_cmpR (r := rIn W.K true) op_notIn_seq (pv 9) (pv 5) rfl) (pw_and1 (pt_cmpR (r := rIn W.K true) op_notIn_seq (pv 9) (pv 2) rfl)))))) (fun _ _ _ _ _ => (pv 9))) pe_int (fun _ _ => rfl))))) pss_nil) (pss_one (ps_expr (pe_bmK (K := W.K) rfl PySem.F.plainAttrs_list PySem.F.slot_list_append PySem.F.type_list_append mt_append (pv 5) (pa_cons (pv 6) pa_nil))))))) (pss_one (ps_ret (pv 5))))), ?_⟩
  refine i_start (σ' := [some (V.ref p), some (V.int n), some (V.ref tk), none, none, none, none, none, none, none]) rfl ?_
  repeat walk_at "rd"
  refine i_mkL (by decide) fun l H1 nl hl s1 => ?_
  repeat walk_at "rd"
  refine i_mkT2 fun t H2 _ ht2 s2 => ?_
  refine ⟨t, _, rfl, SqT.of ht2, rfl, _, _, rfl, ?_⟩
  repeat walk_at "rd"
  refine ⟨_, _, rfl, ?_⟩
  repeat walk_at "rd"
  refine ⟨rfl, ?_⟩
  repeat walk_at "rd"
  have np : l ≠ p := fresh_ne hp nl
  have hl2 := s2 _ _ hl
  have k0 : Dr p H H2 := Dr.of (s1.trans s2) hp
  refine i_for ?_
  repeat walk_at "rd"
  refine i_rfor n0 (by omega) (NJ p l tk n taken H) ⟨_, _, _, _, _, [], rfl, k0, hl2, rfl, List.nodup_nil, fun y h => by cases h⟩ ?_ ?_
  · clear hl2 k0 hl ht2 s1 s2
    rintro i σ' H3 hi ⟨v1, v2, v3, v4, v5, ys, rfl, k3, h3, hy, nd, ok⟩
    dsimp only [List.set]
    repeat walk_at "rd"
    refine i_tM1 ?_
    repeat walk_at "rd"
    refine ⟨⟨_, rfl⟩, ?_⟩
    refine i_lcr ?_
    repeat walk_at "rd"
    refine i_draw k3.pot' (by decide) (sz_lit (by decide)) fun d H4 d0 d1 k4 => ?_
    repeat walk_at "rd"
    refine i_rlcRp (p := p) (fun _ _ v => Let v) k4.pot' (by omega) (by omega) (fun _ _ _ _ _ g => g) (fun x => rfl) ?_ ?_
    · intro j H5 Q' hj k5 q'
      dsimp only [List.map, wipe, List.set]
      repeat walk_at "rd"
      refine i_draw k5.pot' (by decide) (sz_lit (by decide)) fun e H6 e0 e1 k6 => ?_
      repeat walk_at "rd"
      obtain ⟨e, rfl⟩ : ∃ k : Nat, e = (k : Int) := ⟨e.toNat, by omega⟩
      refine i_ixS (by rw [abc_len]; decide) (abc_at e (by omega)) ?_
      exact q' _ H6 k6 ⟨97 + e, rfl, by omega, by omega⟩
    intro r H5 zs nr k5 hr' hzl g
    obtain ⟨cs, rfl, hcs⟩ := lets zs g
    rw [List.length_map] at hzl
    have er : cs.map (fun c => V.str ⟨#[c]⟩) = (cs.map fun c => (⟨#[c]⟩ : Str)).map V.str := by
      rw [List.map_map]
      rfl
    rw [er] at hr'
    have jl := join_lets cs
    have sumL : ∀ l : List Nat, ((l.map fun c => (⟨#[c]⟩ : Str)).map (·.length)).sum = l.length := fun l => by
      induction l with
      | nil => rfl
      | cons c l ih =>
        rw [List.map_cons, List.map_cons, List.sum_cons, ih, List.length_cons, Nat.add_comm]
        rfl
    refine i_join hr' ?_ ?_
    · rw [sumL, List.length_map, show ("" : Str).length = 0 by decide +kernel]
      omega
    generalize Txt.join ("" : Str) (cs.map fun c => (⟨#[c]⟩ : Str)) = lb at jl ⊢
    have lbl : lb.length = cs.length := by
      show lb.cps.size = _
      rw [← Array.length_toList, jl]
    have kk : Dr p H H5 := (k3.trans k4).trans k5
    have h5 : H5 l = some (.lst (ys.map V.str)) := k5.keep _ _ np (k4.keep _ _ np h3)
    clear k3 k4 k5 h3 hr' er g
    have t5 : H5 tk = some (.lst (taken.map V.str)) := kk.keep _ _ ht he
    repeat walk_at "rd"
    refine ⟨fun σ' H6 => ∃ (w2 w3 w4 : Option V) (z : Str), σ' = [some (.ref p), some (.int n), some (.ref tk), some (.int i), some (.str abc), some (.ref l), some (.str z), w2, w3, w4] ∧ Dr p H H6 ∧ H6 l = some (.lst (ys.map V.str)) ∧ Nm z ∧ z ∉ ys ∧ z ∉ taken, ?_, ?_⟩
    · repeat walk_at "rd"
      refine i_orB (b := decide (lb ∈ ys)) (c := decide (lb ∈ taken)) (fun R hR => ?_) (fun R hR => ?_) ?_
      · repeat walk_at "rd"
        exact i_inS h5 ⟨_, rfl, hR⟩
      · repeat walk_at "rd"
        exact i_inS t5 ⟨_, rfl, hR⟩
      have nml : Nm lb := ⟨by omega, by omega, by rw [jl]; exact hcs⟩
      refine i_bor ?_ (fun h1 h2 => ?_)
      · repeat walk_at "rd"
        refine i_lcr ?_
        repeat walk_at "rd"
        refine i_rlcRF (fun i => .str (sp lb i)) (by decide) (by decide) (fun x => rfl) ?_ ?_
        · intro j H6 Q' hj s6 q'
          dsimp only [List.map, wipe, List.set]
          have l1 : ∀ k : Nat, (⟨#[k]⟩ : Str).length = 1 := fun _ => rfl
          have m1 : ((j : Int) % 26) = ((j % 26 : Nat) : Int) := by omega
          have m2 : ((j : Int) / 26) = ((j / 26 : Nat) : Int) := by omega
          repeat walk_at "rd"
          rw [m1]
          refine i_ixS (by rw [abc_len]; decide) (abc_at _ (by omega)) ?_
          repeat walk_at "rd"
          refine i_add_s (sl_of (by rw [l1]; omega)) ?_
          repeat walk_at "rd"
          · rw [m2]
            refine i_ixS (by rw [abc_len]; decide) (abc_at _ (by omega)) ?_
            refine i_add_s (sl_of (by rw [app_len, l1, l1]; omega)) ?_
            exact q' _ (Same.refl _)
          · exact ⟨by decide, by decide⟩
        intro r6 H6 n6 s6 h6
        have e6 : (List.range (100 : Int).toNat).map (fun i => V.str (sp lb i)) = ((List.range 100).map (sp lb)).map V.str := by
          rw [List.map_map]
          rfl
        rw [e6] at h6
        repeat walk_at "rd"
        refine i_lcl ?_
        repeat walk_at "rd"
        refine i_rlcF (sP fun x => !decide (x ∈ ys) && !decide (x ∈ taken)) _root_.id (SqL.of h6) (fun H' s => SqL.of (s _ _ h6)) (by simp) (fun x => rfl) ?_ ?_ ?_
        · intro x H7 R hx s7 hR
          obtain ⟨y, _, rfl⟩ := List.mem_map.mp hx
          dsimp only [List.map, wipe, List.set]
          refine i_andB (b := !decide (y ∈ ys)) (c := !decide (y ∈ taken)) (fun R hR => ?_) (fun R hR => ?_) hR
          · repeat walk_at "rd"
            exact i_niS (s7 _ _ (s6 _ _ h5)) ⟨_, rfl, hR⟩
          · repeat walk_at "rd"
            exact i_niS (s7 _ _ (s6 _ _ t5)) ⟨_, rfl, hR⟩
        · intro x H7 Q' hx hP s7 q'
          dsimp only [List.map, wipe, List.set]
          repeat walk_at "rd"
          exact q' _ (Same.refl _)
        intro r7 H7 n7 s7 h7
        rw [List.map_id, filt_strs] at h7
        obtain ⟨z, zs, ez⟩ : ∃ z zs, ((List.range 100).map (sp lb)).filter (fun x => !decide (x ∈ ys) && !decide (x ∈ taken)) = z :: zs := by
          apply List.exists_cons_of_ne_nil
          intro e0
          have all : ∀ x ∈ (List.range 100).map (sp lb), x ∈ ys ++ taken := by
            intro x hx
            by_cases h : (!decide (x ∈ ys) && !decide (x ∈ taken)) = true
            · have : x ∈ ((List.range 100).map (sp lb)).filter (fun x => !decide (x ∈ ys) && !decide (x ∈ taken)) := List.mem_filter.mpr ⟨hx, h⟩
              rw [e0] at this
              cases this
            · rw [List.mem_append]
              by_cases h1 : x ∈ ys
              · exact .inl h1
              · by_cases h2 : x ∈ taken
                · exact .inr h2
                · exact absurd (by simp [h1, h2]) h
          have := nodup_sub (sp_nodup lb 100) all
          rw [List.length_map, List.length_range, List.length_append] at this
          omega
        have hz1 := List.mem_filter.mp (show z ∈ ((List.range 100).map (sp lb)).filter (fun x => !decide (x ∈ ys) && !decide (x ∈ taken)) by rw [ez]; exact List.mem_cons_self ..)
        rw [ez] at h7
        obtain ⟨j, hj, rfl⟩ := List.mem_map.mp hz1.1
        have hj2 := List.mem_range.mp hj
        have hb := Bool.and_eq_true_iff.mp hz1.2
        have nmz : Nm (sp lb j) := by
          have e := sp_cps lb j
          have le : (sp lb j).length = lb.length + 2 := by
            show (sp lb j).cps.size = _
            rw [← Array.length_toList, e, List.length_append, List.length_append, jl, lbl]
            rfl
          refine ⟨by omega, by omega, fun c hc => ?_⟩
          rw [e, List.mem_append, List.mem_append] at hc
          rcases hc with (hc | hc) | hc
          · exact nml.abc c hc
          · rw [List.mem_singleton] at hc
            omega
          · rw [List.mem_singleton] at hc
            omega
        repeat walk_at "rd"
        refine i_ix_l (v := V.str (sp lb j)) h7 (atI_nat (j := 0) rfl) ?_
        repeat walk_at "rd"
        exact ⟨_, _, _, _, rfl, (kk.same s6).same s7, s7 _ _ (s6 _ _ h5), nmz, by simpa using hb.1, by simpa using hb.2⟩
      · repeat walk_at "rd"
        exact ⟨_, _, _, lb, rfl, kk, h5, nml, h1, h2⟩
    · rintro σ' H6 ⟨w2, w3, w4, z, rfl, k6, h6, nm, z1, z2⟩
      repeat walk_at "rd"
      refine i_tBM ?_
      repeat walk_at "rd"
      refine ⟨ty_lst h6, ?_⟩
      repeat walk_at "rd"
      refine i_append h6 (by rw [List.length_map]; omega) fun H7 n7 k7 h7 => ?_
      repeat walk_at "rd"
      refine ⟨_, _, _, _, _, ys ++ [z], rfl, ?_, ?_, ?_, ?_, ?_⟩
      · refine ⟨fun c o nc e => k7 c o (fun w => by rw [w, nl] at e; cases e) (k6.keep c o nc e), hp, ?_⟩
        obtain ⟨a1, b1, e, ok2⟩ := k6.pot'
        exact ⟨a1, b1, k7 p _ (fun w => np w.symm) e, ok2⟩
      · rw [List.map_append]
        exact h7
      · rw [List.length_append, hy]
        rfl
      · rw [List.nodup_append]
        exact ⟨nd, by simp, fun x hx y hy' e => z1 (by rw [List.mem_singleton] at hy'; rw [← hy', ← e]; exact hx)⟩
      · intro y hy'
        rcases List.mem_append.mp hy' with h | h
        · exact ok y h
        · rw [List.mem_singleton] at h
          rw [h]
          exact ⟨nm, z2⟩
  · rintro σ' H3 ⟨v1, v2, v3, v4, v5, ys, rfl, k3, h3, hy, nd, ok⟩
    repeat walk_at "rd"
    exact q l H3 ys nl k3 h3 hy nd ok
end Lw
namespace Dt
open PySem PySem.Spec PyProof.Rows L2 Ly
theorem ats_perm {H : Hp} {xs ys : List V} (p : ys.Perm xs) : ∀ {ds : List D}, Ats H xs ds → ∃ es, es.Perm ds ∧ Ats H ys es := by
  have key : ∀ {xs ys : List V}, xs.Perm ys → ∀ {ds : List D}, Ats H xs ds → ∃ es, es.Perm ds ∧ Ats H ys es := by
    intro xs ys p
    induction p with
    | nil => exact fun a => ⟨_, .refl _, a⟩
    | cons x p ih =>
      intro ds a
      cases a with
      | cons h t =>
        obtain ⟨es, e1, e2⟩ := ih t
        exact ⟨_ :: es, e1.cons _, .cons h e2⟩
    | swap x y l =>
      intro ds a
      cases a with
      | cons h t =>
        cases t with
        | cons g t => exact ⟨_, List.Perm.swap _ _ _, .cons g (.cons h t)⟩
    | trans p q ih1 ih2 =>
      intro ds a
      obtain ⟨es, e1, e2⟩ := ih1 a
      obtain ⟨fs, f1, f2⟩ := ih2 e2
      exact ⟨fs, f1.trans e1, f2⟩
  exact fun {ds} a => key p.symm a
theorem dr_mo {X : Xs} {H H' : Hp} {q r : Addr} (xq : X q) (hr : H r = none) (dr : Dr q H H') : Mo (cut X H) (cut (plus X r) H') :=
  cut_keep (fun a u n e => dr.keep a u (fun z => n (by rw [z]; exact xq)) e) fun a u n e z => z.elim n (ne_of_none e hr)
end Dt
namespace Lw
open PySem PySem.Spec PyProof.Rows L2 Ly Dt
variable {W : Wd} {a : Ad}
def bMixed (rs : List Rv) (k : Rv → Prop) : Prop := ∃ ds, rs = [.pot, .d (.lst ds)] ∧ ds.length ≤ 1000 ∧ ∀ es : List D, es.Perm ds → k (.new (.lst es))
theorem kd_law_mixed (T : Txt W.K W.mg a) : Cl W 2 "_law_mixed" (spW true bMixed) := by
  refine (k_law_mixed T).imp fun vs H Q E h => ?_
  obtain ⟨π, X, rs, k, hp, ok, ha, at_, b, q⟩ := h
  obtain ⟨ds, rfl, hl, qk⟩ := b
  match vs, at_ with
  | [v1, v2], ⟨a1, a2, _⟩ =>
    obtain ⟨p, rfl, rfl⟩ := a1
    have a2 : At (cut X H) v2 (.lst ds) := a2
    obtain ⟨xp, pot⟩ := ok.pot p rfl
    cases a2 with
    | lst e t =>
      obtain ⟨nX, e⟩ := of_cut e
      refine ⟨p, _, _, rfl, pot, fun z => nX (by rw [z]; exact xp), e, by rw [t.length]; exact hl, fun r H' ys hr dr e' pm => ?_⟩
      obtain ⟨es, p1, p2⟩ := ats_perm pm t
      exact q (.ref r) (.new (.lst es)) H' (Kp.of_dr dr) (fun _ _ z => by cases z) ⟨r, rfl, hr, ys, e', p2.mono (dr_mo xp hr dr)⟩ (qk es p1)
def bNamed (rs : List Rv) (k : Rv → Prop) : Prop := ∃ (n : Int) (tk : List Str), rs = [.pot, .d (.int n), .d (.lst (tk.map D.str))] ∧ 0 ≤ n ∧ n.toNat + tk.length < 100 ∧ ∀ ys : List Str, ys.length = n.toNat → ys.Nodup → (∀ y ∈ ys, Nm y ∧ y ∉ tk) → k (.new (.lst (ys.map D.str)))
theorem kd_law_named (T : Txt W.K W.mg a) : Cl W 2 "_law_named" (spW true bNamed) := by
  refine (k_law_named T).imp fun vs H Q E h => ?_
  obtain ⟨π, X, rs, k, hp, ok, ha, at_, b, q⟩ := h
  obtain ⟨n, tk, rfl, h0, hl, qk⟩ := b
  match vs, at_ with
  | [v1, v2, v3], ⟨a1, a2, a3, _⟩ =>
    obtain ⟨p, rfl, rfl⟩ := a1
    have a2 : At (cut X H) v2 (.int n) := a2
    have a3 : At (cut X H) v3 (.lst (tk.map D.str)) := a3
    obtain ⟨xp, pot⟩ := ok.pot p rfl
    cases a2
    cases a3 with
    | lst e t =>
      obtain ⟨nX, e⟩ := of_cut e
      have z := ats_strs t
      subst z
      refine ⟨p, _, n, tk, rfl, pot, fun z => nX (by rw [z]; exact xp), e, h0, hl, fun r H' ys hr dr e' l1 l2 l3 => ?_⟩
      exact q (.ref r) (.new (.lst (ys.map D.str))) H' (Kp.of_dr dr) (fun _ _ z => by cases z) ⟨r, rfl, hr, ys.map V.str, e', strs_at ys⟩ (qk ys l1 l2 l3)
theorem wcb_mixed {π : Po} {k : Rv → Prop} {E : XK} {r : Rv} {ds : List D} (hp : π.isSome = true) (hf : fzA [.pot, r] = some [.pot, .d (.lst ds)]) (hl : ds.length ≤ 1000) (q : ∀ es : List D, es.Perm ds → k (.new (.lst es))) : WCb π (fun vs H Q => spW true bMixed vs H Q E) [.pot, r] k := wcb_W hp hf ⟨ds, rfl, hl, q⟩
theorem wcb_named {π : Po} {k : Rv → Prop} {E : XK} {r : Rv} {n : Int} {tk : List Str} (hp : π.isSome = true) (hf : fzA [.pot, .d (.int n), r] = some [.pot, .d (.int n), .d (.lst (tk.map D.str))]) (h0 : 0 ≤ n) (hl : n.toNat + tk.length < 100)
    (q : ∀ ys : List Str, ys.length = n.toNat → ys.Nodup → (∀ y ∈ ys, Nm y ∧ y ∉ tk) → k (.new (.lst (ys.map D.str)))) : WCb π (fun vs H Q => spW true bNamed vs H Q E) [.pot, .d (.int n), r] k := wcb_W hp hf ⟨n, tk, rfl, h0, hl, q⟩
theorem wcb_pick {π : Po} {k : Rv → Prop} {E : XK} {r : Rv} {ds : List D} (hp : π.isSome = true) (hf : fzA [.pot, r] = some [.pot, .d (.lst ds)]) (hn : ds ≠ []) (hl : ds.length ≤ 4000) (q : ∀ d, d ∈ ds → k (.d d)) : WCb π (fun vs H Q => spW true bPick vs H Q E) [.pot, r] k := wcb_W hp hf ⟨ds, rfl, hn, hl, q⟩
theorem nm_nmB {x : Str} (h : Nm x) : nmB x = true := by
  unfold nmB
  rw [decide_eq_true h.len, decide_eq_true h.pos, List.all_eq_true.mpr fun c m => (by
    have := h.abc c m
    unfold lowB
    rw [decide_eq_true this.1, decide_eq_true this.2]
    rfl : lowB c = true)]
  rfl
end Lw
namespace Dt
open PySem PySem.Spec PyProof.Rows L2 Ly
abbrev Ld := Str × Rat × List Str
def loD (lo : List Ld) : List (Key × D) := lo.map fun t => (.inr t.1, .tup [fracQ t.2.1, .lst (t.2.2.map .str)])
def modD (sp : List (Str × Int)) (lo : List Ld) : D := .dct [(.inr "rates", .dct (spD sp)), (.inr "loads", .dct (loD lo))]
theorem q_int {q : Rat} (h : (q.den : Int) = 1) : (q.num : Rat) = q := by
  have e := q_lo q
  rw [h] at e
  rw [divInt_one] at e
  exact e
/-- sizes of some fractions -/
structure QsOk (qs : List Rat) (L : Int) : Prop where
  len : qs.length ≤ 24
  num : ∀ q ∈ qs, Sz 300 q.num
  pos : 0 < L
  sz : Sz 600 L
  den : ∀ q ∈ qs, (q.den : Int) ∣ L
theorem QsOk.sub {qs ps : List Rat} {L : Int} (h : QsOk qs L) (hs : ∀ p ∈ ps, p ∈ qs) (hl : ps.length ≤ 24) : QsOk ps L := ⟨hl, fun q m => h.num q (hs q m), h.pos, h.sz, fun q m => h.den q (hs q m)⟩
theorem QsOk.sum {qs : List Rat} {L : Int} (h : QsOk qs L) : Sz 3505 qs.sum.num ∧ Sz 2500 (qs.sum.den : Int) := by
  have z := sum_sz (n := 1000) (m := 2500) (l := 5) (fun q m => sz_mono (h.num q m) (by decide)) h.pos (sz_mono h.sz (by decide)) h.den (by have := h.len; omega)
  exact ⟨z.1, z.2.1⟩
theorem QsOk.sum9 {qs : List Rat} {L : Int} (h : QsOk qs L) : Sz 905 qs.sum.num ∧ Sz 600 (qs.sum.den : Int) := by
  have z := sum_sz (n := 300) (m := 600) (l := 5) h.num h.pos h.sz h.den (by have := h.len; omega)
  exact ⟨z.1, z.2.1⟩
theorem QsOk.den0 {qs : List Rat} {L : Int} (h : QsOk qs L) {q : Rat} (m : q ∈ qs) : Sz 1200 (q.den : Int) := sz_le (sz_mono h.sz (show 600 ≤ 1200 by decide)) (by
  have := Int.le_of_dvd h.pos (h.den q m)
  have := den_pos q
  omega)
theorem QsOk.den1 {qs : List Rat} {L : Int} (h : QsOk qs L) {q : Rat} (m : q ∈ qs) : Sz 2500 (q.den : Int) := sz_mono (h.den0 m) (by decide)
end Dt
namespace Lw
open PySem PySem.Spec PyProof.Rows L2 Ly Dt
local macro_rules | `(tactic| walk_at "wk") => `(tactic| first
  | ((with_reducible refine' w_var ?hv ?hn ?_); (case hv => exact rfl); (case hn => (intro z; cases z)))
  | with_reducible refine w_int ?_
  | with_reducible refine w_str ?_
  | with_reducible refine w_op ?_
  | with_reducible refine wa_cons ?_
  | with_reducible refine wa_nil ?_
  | with_reducible refine w_reprL ?_
  | with_reducible refine w_isi2 ?_
  | with_reducible refine w_cb ?_
  | with_reducible refine w_call ?_
  | ((with_reducible refine' ws_retV ?hv ?_); (case hv => exact rfl))
  | with_reducible refine ws_seq ?_
  | with_reducible refine ws_asg ?_
  | with_reducible refine ws_ret ?_
  | with_reducible refine ws_if ?_
  | with_reducible refine ws_next ?_
  | ((with_reducible refine' ws_append ?hv ?hz ?_); (case hv => exact rfl); rotate_left)
  | with_reducible refine ws_drop ?_
  | with_reducible refine ws_retN ?_
  | ((with_reducible refine wg_d ?_); dsimp only [List.set])
  | ((with_reducible refine wg_raw ?_); dsimp only [List.set])
  | ((with_reducible refine wg_E ?_))
  | ((with_reducible refine' we_tup ?hl ?_); (case hl => exact rfl))
  | with_reducible refine wes_cons ?_
  | with_reducible refine wes_nil ?_
  | ((with_reducible refine we_name ?_); dsimp only [List.set])
  | with_reducible refine out_d ?_
  | with_reducible refine out_new ?_
  | with_reducible refine ex_bl ?_
  | with_reducible refine ite_t ?_
  | ((with_reducible refine ex_fzd ?_); dsimp only [List.set, List.nil_append, List.cons_append])
  | ((with_reducible refine ex_fzn ?_); dsimp only [List.set, List.nil_append, List.cons_append])
  | with_reducible refine ite_nt ?_
  | with_reducible refine ite_nf ?_
  | with_reducible refine ite_f ?_
  | with_reducible refine wt_tb ?_
  | with_reducible refine wt_test ?_
  | with_reducible refine wt_and ?_
  | with_reducible refine wt_or ?_
  | with_reducible refine wt_not ?_
  | with_reducible refine w_andV ?_
  | with_reducible refine w_orV ?_
  | with_reducible refine w_notV ?_
  | with_reducible refine w_if ?_
  | with_reducible refine w_bl ?_
  | with_reducible refine w_non ?_
  | with_reducible refine w_ty ?_
  | with_reducible refine w_ref ?_
  | with_reducible refine w_un ?_
  | ((with_reducible refine w_tup ?_); skip)
  | ((with_reducible refine w_lst ?_); skip)
  | ((with_reducible refine' Exists.intro _ (And.intro ?hf (And.intro ?hl ?_))); (case hf => exact rfl); (case hl => exact Nat.le_of_ble_eq_true rfl))
  | with_reducible refine w_fld ?_
  | ((with_reducible refine' fld_of ?ho ?c ?n ?l ?_); (case ho => exact rfl); (case c => assumption); (case n => with_reducible assumption); (case l => exact rfl))
  | with_reducible refine wp_top ?_
  | with_reducible refine wp_bot ?_
  | with_reducible refine w_prop ?_
  | with_reducible refine w_meth ?_
  | with_reducible refine w_smeth ?_
  | with_reducible refine wop_addI ?_
  | with_reducible refine wop_subI ?_
  | ((with_reducible refine' wop_mulI ?c ?_); rotate_left)
  | ((with_reducible refine' wop_fdI ?c ?_); rotate_left)
  | with_reducible refine wop_mdI (by first | decide | assumption) ?_
  | ((with_reducible refine' wop_mdI ?c ?_); rotate_left)
  | ((with_reducible refine' wop_I0 ?e ?_); (case e => exact rfl))
  | ((with_reducible refine' wop_ixT ?e ?_); (case e => exact rfl))
  | ((with_reducible refine' wcb_lenL ?e ?_); (case e => exact rfl))
  | with_reducible refine wcb_lenT ?_
  | ((with_reducible refine' wop_fdX ?c ?_); rotate_left)
  | ((with_reducible refine' wun_U ?e ?_); (case e => exact rfl))
  | with_reducible refine wop_eqI ?_
  | with_reducible refine wop_neI ?_
  | with_reducible refine wop_eqS ?_
  | with_reducible refine wop_neS ?_
  | with_reducible refine wop_isN ?_
  | with_reducible refine wop_notN ?_
  | ((with_reducible refine' wop_inS ?e ?_); (case e => exact rfl))
  | ((with_reducible refine' wop_niS ?e ?_); (case e => exact rfl))
  | with_reducible refine wop_inST ?_
  | with_reducible refine wcb_gcd ?_
  | with_reducible refine wcb_abs ?_
  | with_reducible refine wcb_max2 ?_
  | with_reducible refine wcb_min2 ?_
  | with_reducible refine wcb_int ?_
  | ((with_reducible refine' wcb_isi (b := true) ?ho ?hb ?_); (case ho => exact rfl); (case hb => (dsimp only [tyN]; decide +kernel)))
  | ((with_reducible refine' wcb_isi (b := false) ?ho ?hb ?_); (case ho => exact rfl); (case hb => (dsimp only [tyN]; decide +kernel)))
  | ((with_reducible refine' wcb_listOf ?e ?_); (case e => exact rfl))
  | with_reducible refine wcb_listOfT ?_
  | ((with_reducible refine' wcb_tupOf ?e ?_); (case e => exact rfl))
  | with_reducible refine w_chain ?_
  | with_reducible refine wcb_strS ?_
  | ((with_reducible refine' wcb_lenD ?e ?_); (case e => exact rfl))
  | ((with_reducible refine' wcb_listD ?e ?_); (case e => exact rfl))
  | with_reducible refine w_dnewK ?_
  | with_reducible refine w_dget ?_
  | with_reducible refine w_din ?_
  | with_reducible refine w_dni ?_
  | with_reducible refine w_lenSet ?_
  | with_reducible refine w_listVals ?_
  | with_reducible refine w_chain ?_
  | ((with_reducible refine' wt_yes ?_)))
variable {W : Wd} {a : Ad}
theorem k_law_some (T : Txt W.K W.mg a) : Cl W 3 "_law_some" (spW true fun rs k => ∃ ds, rs = [.pot, .d (.lst ds)] ∧ ds ≠ [] ∧ ds.length ≤ 1000 ∧ ∀ (es : List D) (n : Nat), es.Perm ds → 1 ≤ n → n ≤ ds.length → k (.new (.lst (es.take n)))) := by
  refine cl_W T.d_law_some sc_law_some bd_law_some (fun rs k ⟨_, h, _⟩ => by rw [h]; rfl) (body_W (n := 2) (m := 0) rfl (fun rs k ⟨_, h, _⟩ => by rw [h]; rfl) fun f cdv A outer s H E hr => ⟨_, (pss_one (ps_ret (pe_slice (r := rSlL W.K) sl_list (pe_cl (kd_law_mixed T) hr (by decide) rfl (pa_cons (pv 0) (pa_cons (pv 1) pa_nil))) po_none (po_some (pe_op op_addU pe_int (pe_cl (k_law_draw T) hr (by decide) rfl (pa_cons (pv 0) (pa_cons (pe_callB (r := Ly.rLen W.K) call_lenU (by rfl) T.b_len (by decide +kernel) (pa_cons (pv 1) pa_nil)) pa_nil)))))))), fun π rs kr hp hB => ?_⟩)
  obtain ⟨ds, rfl, hn, hl, q⟩ := hB
  dsimp only [uns, List.replicate, List.cons_append, List.nil_append]
  have hpos := List.length_pos_iff.mpr hn
  repeat walk_at "wk"
  refine w_slTo ?_
  repeat walk_at "wk"
  refine wcb_mixed hp rfl hl fun es pm => ?_
  refine ⟨_, rfl, ?_⟩
  repeat walk_at "wk"
  refine wcb_draw (by omega) (sz_len (by omega)) fun d d0 d1 => ?_
  repeat walk_at "wk"
  refine ⟨_, rfl, ?_⟩
  have e : Dt.cutD es none (some (1 + d)) = es.take (1 + d).toNat := by
    unfold Dt.cutD
    have h0 : HT.sIx es.length 0 none = 0 := rfl
    have h1 : HT.sIx es.length es.length (some (1 + d)) = (1 + d).toNat := by
      have hle : es.length = ds.length := pm.length_eq
      show (if (1 + d) < 0 then ((1 + d) + (es.length : Int)).toNat else min (1 + d).toNat es.length) = _
      rw [if_neg (by omega)]
      omega
    rw [h0, h1, List.drop_zero, Nat.sub_zero]
  rw [e]
  exact out_new (q es _ pm (by omega) (by omega))
theorem k_law_number (T : Txt W.K W.mg a) : Cl W 4 "_law_number" (spW true fun rs k => ∃ q, rs = [.pot, .d (fracQ q)] ∧ SzQ 1300 q ∧ ∀ d, NumQ a.Ratio d q → k (.d d)) := by
  refine cl_W T.d_law_number sc_law_number bd_law_number (fun rs k ⟨_, h, _⟩ => by rw [h]; rfl) (body_W (n := 2) (m := 1) rfl (fun rs k ⟨_, h, _⟩ => by rw [h]; rfl) fun f cdv A outer s H E hr => ⟨_, (pss_cons (ps_if (PW.pt (pw_and (pt_cmpR (r := rEqU W.K) (op_eqU hr.units) (pe_ix (r := rIx W.K) ix_U (pv 1) pe_int (fun _ _ => rfl)) pe_int (nomark _)) (pw_and1 (pt_cmpR (r := rEqU W.K) (op_eqU hr.units) (pe_cl (k_law_draw T) hr (by decide) rfl (pa_cons (pv 0) (pa_cons pe_int pa_nil))) pe_int (nomark _))))) (pss_one (ps_ret (pe_ix (r := rIx W.K) ix_U (pv 1) pe_int (fun _ _ => rfl)))) pss_nil) (pss_cons (ps_set (i := 2) sc_law_number.nd rfl (Or.inl rfl) (pe_op op_addU pe_int (pe_cl (k_law_draw T) hr (by decide) rfl (pa_cons (pv 0) (pa_cons pe_int pa_nil))))) (pss_one (ps_ret (pe_mak (m_Ratio2 T) hr (by decide) rfl (pa_cons (pe_op op_mulU (pe_ix (r := rIx W.K) ix_U (pv 1) pe_int (fun _ _ => rfl)) (pv 2)) (pa_cons (pe_op op_mulU (pe_ix (r := rIx W.K) ix_U (pv 1) pe_int (fun _ _ => rfl)) (pv 2)) pa_nil))))))), fun π rs kr hp hB => ?_⟩)
  obtain ⟨p, rfl, z, q⟩ := hB
  dsimp only [uns, List.replicate, List.cons_append, List.nil_append]
  refine ws_seq (ws_cut (I := fun δ => δ = [.pot, .d (fracQ p), .un]) ?_ ?_)
  · repeat walk_at "wk"
    refine ite_d (fun h1 => ?_) fun h1 => ?_
    · repeat walk_at "wk"
      refine wcb_draw (by decide) (sz_lit (by decide)) fun d d0 d1 => ?_
      repeat walk_at "wk"
      refine ite_d (fun h2 => ?_) fun h2 => ?_
      · repeat walk_at "wk"
        have nq := NumQ.int (C := a.Ratio) p.num
        rw [q_int h1] at nq
        exact q _ nq
      · repeat walk_at "wk"
        rfl
    · repeat walk_at "wk"
      rfl
  · rintro δ' rfl
    dsimp only
    repeat walk_at "wk"
    refine wcb_draw (by decide) (sz_lit (by decide)) fun d d0 d1 => ?_
    repeat walk_at "wk"
    refine w_ratio2 ?_
    have zd : Sz 4 (1 + d) := by
      show (1 + d).natAbs < 2 ^ 4
      omega
    have hd : (1 + d) ≠ 0 := by omega
    have dn := den_pos p
    repeat walk_at "wk"
    · refine ⟨_, _, rfl, Int.mul_ne_zero (Int.ne_of_gt dn) hd, sz_mono (sz_mul z.1 zd) (by decide), sz_mono (sz_mul z.2 zd) (by decide), out_d ?_⟩
      rw [Rat.divInt_mul_right hd, q_lo]
      exact q _ (.rat p)
    all_goals first
      | exact cmul_sz z.1 zd
      | exact cmul_sz z.2 zd
theorem k_law_sum (T : Txt W.K W.mg a) : Cl W 2 "_law_sum" (spW false fun rs k => ∃ (qs : List Rat) (L : Int), rs = [.d (.lst (qs.map fracQ))] ∧ QsOk qs L ∧ k (.d (fracQ qs.sum))) := by
  refine cl_W T.d_law_sum sc_law_sum bd_law_sum (fun rs k ⟨_, _, h, _⟩ => by rw [h]; rfl) (body_W (n := 1) (m := 4) rfl (fun rs k ⟨_, _, h, _⟩ => by rw [h]; rfl) fun f cdv A outer s H E hr => ⟨_, (pss_cons (ps_asg (pe_tup (pa_cons pe_int (pa_cons pe_int pa_nil))) (pg_tupK (K := W.K) (n := 2) rfl rfl (pgs_cons (pg_name (i := 1) sc_law_sum.nd rfl (Or.inl rfl)) (pgs_cons (pg_name (i := 2) sc_law_sum.nd rfl (Or.inl rfl)) pgs_nil)))) (pss_cons (ps_for PassesOwn.never rfl (pi_listK (K := W.K) rfl (pv 0)) (pg_tupK (K := W.K) (n := 2) rfl rfl (pgs_cons (pg_name (i := 3) sc_law_sum.nd rfl (Or.inl rfl)) (pgs_cons (pg_name (i := 4) sc_law_sum.nd rfl (Or.inl rfl)) pgs_nil))) (pss_one (ps_asg (pe_cl (k_law_frac T) hr (by decide) rfl (pa_cons (pe_op op_addU (pe_op op_mulU (pv 1) (pv 4)) (pe_op op_mulU (pv 3) (pv 2))) (pa_cons (pe_op op_mulU (pv 2) (pv 4)) pa_nil))) (pg_tupK (K := W.K) (n := 2) rfl rfl (pgs_cons (pg_name (i := 1) sc_law_sum.nd rfl (Or.inl rfl)) (pgs_cons (pg_name (i := 2) sc_law_sum.nd rfl (Or.inl rfl)) pgs_nil)))))) (pss_one (ps_ret (pe_tup (pa_cons (pv 1) (pa_cons (pv 2) pa_nil))))))), fun π rs kr hp hB => ?_⟩)
  obtain ⟨qs, L, rfl, ok, q⟩ := hB
  dsimp only [uns, List.replicate, List.cons_append, List.nil_append]
  repeat walk_at "wk"
  refine ws_for (wi_list ?_)
  repeat walk_at "wk"
  refine ⟨_, rfl, fun i δ => ∃ r3 r4, δ = [.d (.lst (qs.map fracQ)), .d (.int (qs.take i).sum.num), .d (.int ((qs.take i).sum.den : Int)), r3, r4], ⟨_, _, rfl⟩, fun i d δ' hd hI => ?_, fun δ' hI => ?_⟩
  · obtain ⟨r3, r4, rfl⟩ := hI
    rw [List.getElem?_map] at hd
    obtain ⟨p, hp', rfl⟩ := Option.map_eq_some_iff.mp hd
    have hm := List.mem_of_getElem? hp'
    have ht : qs.take (i + 1) = qs.take i ++ [p] := by rw [List.take_add_one, hp']; rfl
    have z := (ok.sub (ps := qs.take i) (fun x hx => List.mem_of_mem_take hx) (by have := ok.len; rw [List.length_take]; omega)).sum
    have zp := sz_mono (ok.num p hm) (show 300 ≤ 3505 by decide)
    have zd := ok.den1 hm
    have d0 := Int.ne_of_gt (den_pos p)
    have d1 := Int.ne_of_gt (den_pos (qs.take i).sum)
    repeat walk_at "wk"
    · refine wcb_fracQ (Int.mul_ne_zero d1 d0) (sz_mono (sz_add (n := 6005) (sz_mul z.1 zd) (sz_mul zp z.2)) (by decide)) (sz_mono (sz_mul z.2 zd) (by decide)) ?_
      rw [← Rat.divInt_add_divInt _ _ d1 d0, q_lo, q_lo]
      have e : (qs.take (i + 1)).sum = (qs.take i).sum + p := by rw [ht, List.sum_append, List.sum_cons, List.sum_nil, Rat.add_zero]
      rw [← e]
      repeat walk_at "wk"
      exact ⟨_, _, rfl⟩
    all_goals first
      | exact cmul_sz z.1 zd
      | exact cmul_sz zp z.2
      | exact cmul_sz z.2 zd
  · obtain ⟨r3, r4, rfl⟩ := hI
    rw [List.length_map, List.take_length]
    repeat walk_at "wk"
    exact q
theorem k_law_is_within (T : Txt W.K W.mg a) : Cl W 1 "_law_is_within" (spW false fun rs k => ∃ ss ps : List Str, rs = [.d (.lst (ss.map D.str)), .d (.lst (ps.map D.str))] ∧ ss.length ≤ 4000 ∧ k (.d (.bl (ss.all fun s => decide (s ∈ ps))))) := by
  refine cl_W T.d_law_is_within sc_law_is_within bd_law_is_within (fun rs k ⟨_, _, h, _⟩ => by rw [h]; rfl) (body_W (n := 2) (m := 1) rfl (fun rs k ⟨_, _, h, _⟩ => by rw [h]; rfl) fun f cdv A outer s H E hr => ⟨_, (pss_one (ps_ret (pe_cmpR (r := rEqU W.K) (op_eqU hr.units) (pe_callB (r := Ly.rLen W.K) call_lenU (by rfl) T.b_len (by decide +kernel) (pa_cons (pe_lc (own := [("_law_this", 2)]) (g := (gName 2)) (tt := _) rfl sc_law_is_within.nd (pi_listK (K := W.K) rfl (pv 0)) (blkOk_by (N := N_law_is_within) (sc := defScope s_law_is_within) (by decide +kernel)) (fun _ _ _ _ _ => (pg_name (i := 2) sc_law_is_within.nd rfl (Or.inl rfl))) (fun _ _ _ _ _ => (pts_one (pt_cmpR (r := rIn W.K true) op_notIn_seq (pv 2) (pv 1) rfl))) (fun _ _ _ _ _ => (pv 2))) pa_nil)) pe_int (nomark _)))), fun π rs kr hp hB => ?_⟩)
  obtain ⟨ss, ps, rfl, hl, q⟩ := hB
  dsimp only [uns, List.replicate, List.cons_append, List.nil_append]
  repeat walk_at "wk"
  refine w_lcF (j := 2) (by decide) (fun d => match d with | .str s => !decide (s ∈ ps) | _ => false) (fun d => d) (wi_list ?_)
  repeat walk_at "wk"
  refine ⟨_, rfl, by rw [List.length_map]; omega, fun d hd => ?_, fun d hd hp => ?_, ?_⟩
  · obtain ⟨s, _, rfl⟩ := List.mem_map.mp hd
    dsimp only [List.map, wipeD, List.set]
    repeat walk_at "wk"
    rfl
  · obtain ⟨s, _, rfl⟩ := List.mem_map.mp hd
    dsimp only [List.map, wipeD, List.set]
    repeat walk_at "wk"
    rfl
  · repeat walk_at "wk"
    have e : decide ((((((ss.map D.str).filter fun d => match d with | .str s => !decide (s ∈ ps) | _ => false).map fun d => d).length : Nat) : Int) = 0) = ss.all fun s => decide (s ∈ ps) := by
      rw [List.length_map, List.filter_map, List.length_map, Bool.eq_iff_iff, decide_eq_true_eq, List.all_eq_true]
      constructor
      · intro h s hs
        have h0 := List.filter_eq_nil_iff.mp (List.length_eq_zero_iff.mp (Int.natCast_eq_zero.mp h)) s hs
        simpa using h0
      · intro h
        rw [Int.natCast_eq_zero, List.length_eq_zero_iff, List.filter_eq_nil_iff]
        intro s hs
        have := h s hs
        simpa using this
    show kr _
    rw [e]
    exact q
end Lw
namespace Dt
open PySem PySem.Spec PyProof.Rows L2 Ly
/-- what a drawn model is -/
structure MoOk (sp : List (Str × Int)) (lo : List Ld) : Prop where
  so : SpOk sp
  nd : (lo.map (·.1)).Nodup
  nm : ∀ t ∈ lo, nmB t.1 = true
  len : lo.length ≤ 24
  q0 : ∀ t ∈ lo, 0 ≤ t.2.1.num
  ne : ∀ t ∈ lo, t.2.2 ≠ []
  hnd : ∀ t ∈ lo, t.2.2.Nodup
  sub : ∀ t ∈ lo, ∀ h ∈ t.2.2, h ∈ sp.map (·.1)
  hl : ∀ t ∈ lo, t.2.2.length ≤ 12
  qs : ∃ L, QsOk (lo.map fun t => t.2.1) L
theorem valD_hit {k : Key} {d : D} {kd : List (Key × D)} : valD ((k, d) :: kd) k = some d := by simp [valD, List.find?_cons]
theorem valD_skip {k k' : Key} {d : D} {kd : List (Key × D)} (h : k' ≠ k) : valD ((k', d) :: kd) k = valD kd k := by simp [valD, List.find?_cons, h]
theorem rates_at {sp : List (Str × Int)} {lo : List Ld} : valD [((.inr "rates" : Key), .dct (spD sp)), (.inr "loads", .dct (loD lo))] (.inr "rates") = some (.dct (spD sp)) := valD_hit
theorem loads_at {sp : List (Str × Int)} {lo : List Ld} : valD [((.inr "rates" : Key), .dct (spD sp)), (.inr "loads", .dct (loD lo))] (.inr "loads") = some (.dct (loD lo)) := by
  rw [valD_skip (by decide), valD_hit]
/-- the loads whose places are all among some -/
def lconf (lo : List Ld) (ps : List Str) : List Ld := lo.filter fun t => t.2.2.all fun s => decide (s ∈ ps)
theorem choose_map {α : Type} {f : α → D} : ∀ {ds xs : List D} {R : Nat → D → α → Prop}, xs.length = ds.length → (∀ (i : Nat) (d x : D), ds[i]? = some d → xs[i]? = some x → ∃ y, R i d y ∧ x = f y) →
    ∃ ys : List α, xs = ys.map f ∧ ys.length = ds.length ∧ ∀ (i : Nat) (d : D) (y : α), ds[i]? = some d → ys[i]? = some y → R i d y
  | [], [], R, _, _ => ⟨[], rfl, rfl, fun i d y h => by simp at h⟩
  | [], _ :: _, R, h, _ => by cases h
  | _ :: _, [], R, h, _ => by cases h
  | d :: ds, x :: xs, R, h, g => by
    obtain ⟨y, h1, rfl⟩ := g 0 d x rfl rfl
    obtain ⟨ys, e1, e2, e3⟩ := choose_map (ds := ds) (xs := xs) (R := fun i => R (i + 1)) (by simpa using h) fun i d x h1 h2 => g (i + 1) d x (by simpa using h1) (by simpa using h2)
    refine ⟨y :: ys, by rw [e1]; rfl, by rw [List.length_cons, List.length_cons, e2], fun i d y h1 h2 => ?_⟩
    cases i with
    | zero =>
      simp only [List.getElem?_cons_zero, Option.some.injEq] at h1 h2
      subst h1
      subst h2
      assumption
    | succ i => exact e3 i d y (by simpa using h1) (by simpa using h2)
def unStr : D → Str
  | .str s => s
  | _ => Str.empty
theorem perm_strs {es : List D} {ss : List Str} (p : es.Perm (ss.map D.str)) : ∃ zs : List Str, es = zs.map D.str ∧ zs.Perm ss := by
  refine ⟨es.map unStr, ?_, ?_⟩
  · rw [List.map_map]
    have key : ∀ e ∈ es, (D.str ∘ unStr) e = e := fun e he => by
      obtain ⟨s, _, rfl⟩ := List.mem_map.mp (p.mem_iff.mp he)
      rfl
    rw [List.map_congr_left key, List.map_id']
  · have z := p.map unStr
    rw [List.map_map] at z
    have e : ss.map (unStr ∘ D.str) = ss := by
      rw [show (unStr ∘ D.str) = id from rfl, List.map_id]
    rw [e] at z
    exact z
end Dt
namespace Lw
open PySem PySem.Spec PyProof.Rows L2 Ly Dt
local macro_rules | `(tactic| walk_at "wk") => `(tactic| first
  | ((with_reducible refine' w_var ?hv ?hn ?_); (case hv => exact rfl); (case hn => (intro z; cases z)))
  | with_reducible refine w_int ?_
  | with_reducible refine w_str ?_
  | with_reducible refine w_op ?_
  | with_reducible refine wa_cons ?_
  | with_reducible refine wa_nil ?_
  | with_reducible refine w_reprL ?_
  | with_reducible refine w_isi2 ?_
  | with_reducible refine w_cb ?_
  | with_reducible refine w_call ?_
  | ((with_reducible refine' ws_retV ?hv ?_); (case hv => exact rfl))
  | with_reducible refine ws_seq ?_
  | with_reducible refine ws_asg ?_
  | with_reducible refine ws_ret ?_
  | with_reducible refine ws_if ?_
  | with_reducible refine ws_next ?_
  | ((with_reducible refine' ws_append ?hv ?hz ?_); (case hv => exact rfl); rotate_left)
  | with_reducible refine ws_drop ?_
  | with_reducible refine ws_retN ?_
  | ((with_reducible refine wg_d ?_); dsimp only [List.set])
  | ((with_reducible refine wg_raw ?_); dsimp only [List.set])
  | ((with_reducible refine wg_E ?_))
  | ((with_reducible refine' we_tup ?hl ?_); (case hl => exact rfl))
  | with_reducible refine wes_cons ?_
  | with_reducible refine wes_nil ?_
  | ((with_reducible refine we_name ?_); dsimp only [List.set])
  | with_reducible refine out_d ?_
  | with_reducible refine out_new ?_
  | with_reducible refine ex_bl ?_
  | with_reducible refine ite_t ?_
  | ((with_reducible refine ex_fzd ?_); dsimp only [List.set, List.nil_append, List.cons_append])
  | ((with_reducible refine ex_fzn ?_); dsimp only [List.set, List.nil_append, List.cons_append])
  | with_reducible refine ite_nt ?_
  | with_reducible refine ite_nf ?_
  | with_reducible refine ite_f ?_
  | with_reducible refine wt_tb ?_
  | with_reducible refine wt_test ?_
  | with_reducible refine wt_and ?_
  | with_reducible refine wt_or ?_
  | with_reducible refine wt_not ?_
  | with_reducible refine w_andV ?_
  | with_reducible refine w_orV ?_
  | with_reducible refine w_notV ?_
  | with_reducible refine w_if ?_
  | with_reducible refine w_bl ?_
  | with_reducible refine w_non ?_
  | with_reducible refine w_ty ?_
  | with_reducible refine w_ref ?_
  | with_reducible refine w_un ?_
  | ((with_reducible refine w_tup ?_); skip)
  | ((with_reducible refine w_lst ?_); skip)
  | ((with_reducible refine' Exists.intro _ (And.intro ?hf (And.intro ?hl ?_))); (case hf => exact rfl); (case hl => exact Nat.le_of_ble_eq_true rfl))
  | with_reducible refine w_fld ?_
  | ((with_reducible refine' fld_of ?ho ?c ?n ?l ?_); (case ho => exact rfl); (case c => assumption); (case n => with_reducible assumption); (case l => exact rfl))
  | with_reducible refine wp_top ?_
  | with_reducible refine wp_bot ?_
  | with_reducible refine w_prop ?_
  | with_reducible refine w_meth ?_
  | with_reducible refine w_smeth ?_
  | with_reducible refine wop_addI ?_
  | with_reducible refine wop_subI ?_
  | ((with_reducible refine' wop_mulI ?c ?_); rotate_left)
  | ((with_reducible refine' wop_fdI ?c ?_); rotate_left)
  | with_reducible refine wop_mdI (by first | decide | assumption) ?_
  | ((with_reducible refine' wop_mdI ?c ?_); rotate_left)
  | ((with_reducible refine' wop_I0 ?e ?_); (case e => exact rfl))
  | ((with_reducible refine' wop_ixT ?e ?_); (case e => exact rfl))
  | ((with_reducible refine' wcb_lenL ?e ?_); (case e => exact rfl))
  | with_reducible refine wcb_lenT ?_
  | ((with_reducible refine' wop_fdX ?c ?_); rotate_left)
  | ((with_reducible refine' wun_U ?e ?_); (case e => exact rfl))
  | with_reducible refine wop_eqI ?_
  | with_reducible refine wop_neI ?_
  | with_reducible refine wop_eqS ?_
  | with_reducible refine wop_neS ?_
  | with_reducible refine wop_isN ?_
  | with_reducible refine wop_notN ?_
  | ((with_reducible refine' wop_inS ?e ?_); (case e => exact rfl))
  | ((with_reducible refine' wop_niS ?e ?_); (case e => exact rfl))
  | with_reducible refine wop_inST ?_
  | with_reducible refine wcb_gcd ?_
  | with_reducible refine wcb_abs ?_
  | with_reducible refine wcb_max2 ?_
  | with_reducible refine wcb_min2 ?_
  | with_reducible refine wcb_int ?_
  | ((with_reducible refine' wcb_isi (b := true) ?ho ?hb ?_); (case ho => exact rfl); (case hb => (dsimp only [tyN]; decide +kernel)))
  | ((with_reducible refine' wcb_isi (b := false) ?ho ?hb ?_); (case ho => exact rfl); (case hb => (dsimp only [tyN]; decide +kernel)))
  | ((with_reducible refine' wcb_listOf ?e ?_); (case e => exact rfl))
  | with_reducible refine wcb_listOfT ?_
  | ((with_reducible refine' wcb_tupOf ?e ?_); (case e => exact rfl))
  | with_reducible refine w_chain ?_
  | with_reducible refine wcb_strS ?_
  | ((with_reducible refine' wcb_lenD ?e ?_); (case e => exact rfl))
  | ((with_reducible refine' wcb_listD ?e ?_); (case e => exact rfl))
  | with_reducible refine w_dnewK ?_
  | with_reducible refine w_dget ?_
  | with_reducible refine w_din ?_
  | with_reducible refine w_dni ?_
  | with_reducible refine w_lenSet ?_
  | with_reducible refine w_listVals ?_
  | with_reducible refine w_chain ?_
  | ((with_reducible refine' wt_yes ?_)))
variable {W : Wd} {a : Ad}
theorem k_law_rate (T : Txt W.K W.mg a) : Cl W 1 "_law_rate" (spW false fun rs k => ∃ (sp : List (Str × Int)) (lo : List Ld) (ps : List Str), rs = [.d (modD sp lo), .d (.lst (ps.map D.str))] ∧ SpOk sp ∧ ps.length ≤ 4000 ∧ (∀ p ∈ ps, p ∈ sp.map (·.1)) ∧ k (.d (.int (ps.map (spV sp)).sum))) := by
  refine cl_W T.d_law_rate sc_law_rate bd_law_rate (fun rs k ⟨_, _, _, h, _⟩ => by rw [h]; rfl) (body_W (n := 2) (m := 1) rfl (fun rs k ⟨_, _, _, h, _⟩ => by rw [h]; rfl) fun f cdv A outer s H E hr => ⟨_, (pss_one (ps_ret (pe_callB (cr_sum rfl) (by rfl) T.b_sum (by decide +kernel) (pa_cons (pe_lc (own := [("_law_spot", 2)]) (g := (gName 2)) (tt := tYes) rfl sc_law_rate.nd (pi_listK (K := W.K) rfl (pv 1)) (blkOk_by (N := N_law_rate) (sc := defScope s_law_rate) (by decide +kernel)) (fun _ _ _ _ _ => (pg_name (i := 2) sc_law_rate.nd rfl (Or.inl rfl))) (fun _ _ _ _ _ => pts_nil) (fun _ _ _ _ _ => (pe_dget (room_u1 hr) (pe_dget (room_u1 hr) (pv 0) pe_str (fun _ _ => rfl)) (pv 2) (fun _ _ => rfl)))) pa_nil)))), fun π rs kr hp hB => ?_⟩)
  obtain ⟨sp, lo, ps, rfl, ok, hl, hs, q⟩ := hB
  dsimp only [uns, List.replicate, List.cons_append, List.nil_append]
  repeat walk_at "wk"
  refine w_lcM (j := 2) (by decide) (fun d => match d with | .str s => .int (spV sp s) | _ => .non) (wi_list ?_)
  repeat walk_at "wk"
  refine ⟨_, rfl, by rw [List.length_map]; omega, fun d hd => ?_, ?_⟩
  · obtain ⟨s, hm, rfl⟩ := List.mem_map.mp hd
    dsimp only [List.map, wipeD, List.set]
    repeat walk_at "wk"
    refine ⟨_, _, _, _, rfl, rfl, rfl, rates_at, ?_⟩
    repeat walk_at "wk"
    exact ⟨_, _, _, _, rfl, rfl, rfl, spD_at ok (hs s hm), rfl⟩
  · rw [List.map_map]
    repeat walk_at "wk"
    exact wcb_sum (ns := ps.map (spV sp)) (by rw [List.map_map]; rfl) (out_d q)
theorem k_law_weight (T : Txt W.K W.mg a) : Cl W 3 "_law_weight" (spW false fun rs k => ∃ (sp : List (Str × Int)) (lo : List Ld) (ps : List Str), rs = [.d (modD sp lo), .d (.lst (ps.map D.str))] ∧ MoOk sp lo ∧ k (.d (fracQ ((lconf lo ps).map fun t => t.2.1).sum))) := by
  refine cl_W T.d_law_weight sc_law_weight bd_law_weight (fun rs k ⟨_, _, _, h, _⟩ => by rw [h]; rfl) (body_W (n := 2) (m := 2) rfl (fun rs k ⟨_, _, _, h, _⟩ => by rw [h]; rfl) fun f cdv A outer s H E hr => ⟨_, (pss_one (ps_ret (pe_cl (k_law_sum T) hr (by decide) rfl (pa_cons (pe_lockO (pe_lc (own := [("_law_toil", 2), ("_law_homes", 3)]) (g := _) (tt := _) rfl sc_law_weight.nd (pi_values (pe_dget (room_u1 hr) (pv 0) pe_str (fun _ _ => rfl)) rfl rfl) (blkOk_by (N := N_law_weight) (sc := defScope s_law_weight) (by decide +kernel)) (fun _ _ _ _ _ => (pg_tupK (K := W.K) (n := 2) rfl rfl (pgs_cons (pg_name (i := 2) sc_law_weight.nd rfl (Or.inl rfl)) (pgs_cons (pg_name (i := 3) sc_law_weight.nd rfl (Or.inl rfl)) pgs_nil)))) (fun _ _ _ _ _ => (pts_one (pt_val (pe_cl (k_law_is_within T) hr (by decide) rfl (pa_cons (pv 3) (pa_cons (pv 1) pa_nil)))))) (fun _ _ _ _ _ => (pv 2)))) pa_nil)))), fun π rs kr hp hB => ?_⟩)
  obtain ⟨sp, lo, ps, rfl, ok, q⟩ := hB
  dsimp only [uns, List.replicate, List.cons_append, List.nil_append]
  have hlen := ok.len
  obtain ⟨L, hL⟩ := ok.qs
  repeat walk_at "wk"
  refine w_lcD dit_vals (gn_tup (gn_cons (gn_name (by decide)) (gn_cons (gn_name (by decide)) gn_nil gm_name) gm_name)) (std_dget (std_var rfl) loads_at) ?_
  have hds : ((loD lo).map (·.2)) = lo.map fun t => .tup [fracQ t.2.1, .lst (t.2.2.map .str)] := by
    unfold loD
    rw [List.map_map]
    rfl
  rw [hds]
  refine ⟨fun i acc => acc = (lconf (lo.take i) ps).map fun t => fracQ t.2.1, rfl, fun i d acc hd hI => ?_, fun acc hI => ?_⟩
  · rw [List.getElem?_map] at hd
    obtain ⟨t, ht, rfl⟩ := Option.map_eq_some_iff.mp hd
    have hm := List.mem_of_getElem? ht
    have hi := (List.getElem?_eq_some_iff.mp ht).1
    have hlp := ok.hl t hm
    have et : lo.take (i + 1) = lo.take i ++ [t] := by rw [List.take_add_one, ht]; rfl
    have hla : acc.length ≤ 24 := by
      rw [hI, List.length_map]
      refine Nat.le_trans (List.length_filter_le _ _) ?_
      rw [List.length_take]
      omega
    dsimp only [List.map, wipeD, List.set]
    repeat walk_at "wk"
    refine wcb_W0 (rs := [.d (.lst (t.2.2.map D.str)), .d (.lst (ps.map D.str))]) rfl rfl ⟨t.2.2, ps, rfl, by omega, fun z => (by cases z), ?_⟩
    repeat walk_at "wk"
    have ec : lconf (lo.take (i + 1)) ps = lconf (lo.take i) ps ++ (if (t.2.2.all fun s => decide (s ∈ ps)) = true then [t] else []) := by
      unfold lconf
      rw [et, List.filter_append, List.filter_cons, List.filter_nil]
    refine ite_b (fun hb => ?_) fun hb => ?_
    · repeat walk_at "wk"
      refine ⟨_, rfl, by omega, ?_⟩
      show acc ++ [fracQ t.2.1] = (lconf (lo.take (i + 1)) ps).map fun t => fracQ t.2.1
      rw [ec, if_pos (show (t.2.2.all fun s => decide (s ∈ ps)) = true from hb), List.map_append, hI]
      rfl
    · show acc = (lconf (lo.take (i + 1)) ps).map fun t => fracQ t.2.1
      rw [ec, if_neg (by rw [show (t.2.2.all fun s => decide (s ∈ ps)) = false from hb]; exact Bool.false_ne_true), List.append_nil, hI]
  · rw [hI, List.length_map, List.take_length]
    repeat walk_at "wk"
    have e : ((lconf lo ps).map fun t => fracQ t.2.1) = ((lconf lo ps).map fun t => t.2.1).map fracQ := by
      rw [List.map_map]
      rfl
    rw [e]
    refine wcb_W0 (rs := [.d (.lst (((lconf lo ps).map fun t => t.2.1).map fracQ))]) rfl rfl ⟨_, L, rfl, hL.sub (fun x hx => ?_) ?_, fun z => (by cases z), out_d q⟩
    · obtain ⟨t, ht, rfl⟩ := List.mem_map.mp hx
      exact List.mem_map.mpr ⟨t, (List.mem_filter.mp ht).1, rfl⟩
    · rw [List.length_map]
      exact Nat.le_trans (List.length_filter_le _ _) hlen
end Lw
namespace Dt
open PySem PySem.Spec PyProof.Rows L2 Ly
theorem q_small {u v : Int} (h0 : 0 ≤ u) (h1 : u < 13) (v0 : 1 ≤ v) (v1 : v ≤ 6) : 0 ≤ (Rat.divInt u v).num ∧ Sz 300 (Rat.divInt u v).num ∧ ((Rat.divInt u v).den : Int) ∣ 60 := by
  have hv : v ≠ 0 := by omega
  refine ⟨?_, ?_, ?_⟩
  · rw [Rat.num_divInt, Int.sign_eq_one_of_pos (by omega), Int.one_mul]
    exact Int.ediv_nonneg h0 (Int.natCast_nonneg _)
  · rw [← nu_q hv]
    refine sz_le (x := u) ?_ (nu_le _ _ hv)
    show u.natAbs < 2 ^ 300
    exact Nat.lt_of_lt_of_le (show u.natAbs < 2 ^ 4 by omega) (Nat.pow_le_pow_right (by decide) (by decide))
  · have hd : ((Rat.divInt u v).den : Int) ∣ v := by
      rw [Rat.den_divInt, if_neg hv]
      have hg : Int.gcd v u ∣ v.natAbs := Int.gcd_dvd_natAbs_left ..
      have h2 : v.natAbs / Int.gcd v u ∣ v.natAbs := Nat.div_dvd_of_dvd hg
      have e : ((v.natAbs : Nat) : Int) = v := Int.natAbs_of_nonneg (by omega)
      exact Int.dvd_trans (Int.natCast_dvd_natCast.mpr h2) (by rw [e]; exact Int.dvd_refl v)
    refine Int.dvd_trans hd ?_
    have : v = 1 ∨ v = 2 ∨ v = 3 ∨ v = 4 ∨ v = 5 ∨ v = 6 := by omega
    rcases this with rfl | rfl | rfl | rfl | rfl | rfl <;> decide
theorem zipD_get {xs ys : List D} {i : Nat} {d : D} (h : (zipD xs ys)[i]? = some d) : ∃ x y, xs[i]? = some x ∧ ys[i]? = some y ∧ d = .tup [x, y] := by
  unfold zipD at h
  rw [List.getElem?_map] at h
  obtain ⟨p, hp, rfl⟩ := Option.map_eq_some_iff.mp h
  obtain ⟨h1, h2⟩ := List.getElem?_zip_eq_some.mp hp
  exact ⟨_, _, h1, h2, rfl⟩
theorem zipD_len {xs ys : List D} : (zipD xs ys).length = min xs.length ys.length := by
  unfold zipD
  rw [List.length_map, List.length_zip]
def rowD (t : Ld) : D := .tup [.str t.1, .tup [fracQ t.2.1, .lst (t.2.2.map .str)]]
theorem rowD_eq (lo : List Ld) : lo.map rowD = (loD lo).map Dt.pairD := by
  unfold loD
  rw [List.map_map]
  rfl
theorem loD_keys (lo : List Ld) : (loD lo).map (·.1) = (lo.map (·.1)).map Sum.inr := by
  unfold loD
  rw [List.map_map, List.map_map]
  rfl
end Dt
namespace Lw
open PySem PySem.Spec PyProof.Rows L2 Ly Dt
local macro_rules | `(tactic| walk_at "wk") => `(tactic| first
  | ((with_reducible refine' w_var ?hv ?hn ?_); (case hv => exact rfl); (case hn => (intro z; cases z)))
  | with_reducible refine w_int ?_
  | with_reducible refine w_str ?_
  | with_reducible refine w_op ?_
  | with_reducible refine wa_cons ?_
  | with_reducible refine wa_nil ?_
  | with_reducible refine w_reprL ?_
  | with_reducible refine w_isi2 ?_
  | with_reducible refine w_cb ?_
  | with_reducible refine w_call ?_
  | ((with_reducible refine' ws_retV ?hv ?_); (case hv => exact rfl))
  | with_reducible refine ws_seq ?_
  | with_reducible refine ws_asg ?_
  | with_reducible refine ws_ret ?_
  | with_reducible refine ws_if ?_
  | with_reducible refine ws_next ?_
  | ((with_reducible refine' ws_append ?hv ?hz ?_); (case hv => exact rfl); rotate_left)
  | with_reducible refine ws_drop ?_
  | with_reducible refine ws_retN ?_
  | ((with_reducible refine wg_d ?_); dsimp only [List.set])
  | ((with_reducible refine wg_raw ?_); dsimp only [List.set])
  | ((with_reducible refine wg_E ?_))
  | ((with_reducible refine' we_tup ?hl ?_); (case hl => exact rfl))
  | with_reducible refine wes_cons ?_
  | with_reducible refine wes_nil ?_
  | ((with_reducible refine we_name ?_); dsimp only [List.set])
  | with_reducible refine out_d ?_
  | with_reducible refine out_new ?_
  | with_reducible refine ex_bl ?_
  | with_reducible refine ite_t ?_
  | ((with_reducible refine ex_fzd ?_); dsimp only [List.set, List.nil_append, List.cons_append])
  | ((with_reducible refine ex_fzn ?_); dsimp only [List.set, List.nil_append, List.cons_append])
  | with_reducible refine ite_nt ?_
  | with_reducible refine ite_nf ?_
  | with_reducible refine ite_f ?_
  | with_reducible refine wt_tb ?_
  | with_reducible refine wt_test ?_
  | with_reducible refine wt_and ?_
  | with_reducible refine wt_or ?_
  | with_reducible refine wt_not ?_
  | with_reducible refine w_andV ?_
  | with_reducible refine w_orV ?_
  | with_reducible refine w_notV ?_
  | with_reducible refine w_if ?_
  | with_reducible refine w_bl ?_
  | with_reducible refine w_non ?_
  | with_reducible refine w_ty ?_
  | with_reducible refine w_ref ?_
  | with_reducible refine w_un ?_
  | ((with_reducible refine w_tup ?_); skip)
  | ((with_reducible refine w_lst ?_); skip)
  | ((with_reducible refine' Exists.intro _ (And.intro ?hf (And.intro ?hl ?_))); (case hf => exact rfl); (case hl => exact Nat.le_of_ble_eq_true rfl))
  | with_reducible refine w_fld ?_
  | ((with_reducible refine' fld_of ?ho ?c ?n ?l ?_); (case ho => exact rfl); (case c => assumption); (case n => with_reducible assumption); (case l => exact rfl))
  | with_reducible refine wp_top ?_
  | with_reducible refine wp_bot ?_
  | with_reducible refine w_prop ?_
  | with_reducible refine w_meth ?_
  | with_reducible refine w_smeth ?_
  | with_reducible refine wop_addI ?_
  | with_reducible refine wop_subI ?_
  | ((with_reducible refine' wop_mulI ?c ?_); rotate_left)
  | ((with_reducible refine' wop_fdI ?c ?_); rotate_left)
  | with_reducible refine wop_mdI (by first | decide | assumption) ?_
  | ((with_reducible refine' wop_mdI ?c ?_); rotate_left)
  | ((with_reducible refine' wop_I0 ?e ?_); (case e => exact rfl))
  | ((with_reducible refine' wop_ixT ?e ?_); (case e => exact rfl))
  | ((with_reducible refine' wcb_lenL ?e ?_); (case e => exact rfl))
  | with_reducible refine wcb_lenT ?_
  | ((with_reducible refine' wop_fdX ?c ?_); rotate_left)
  | ((with_reducible refine' wun_U ?e ?_); (case e => exact rfl))
  | with_reducible refine wop_eqI ?_
  | with_reducible refine wop_neI ?_
  | with_reducible refine wop_eqS ?_
  | with_reducible refine wop_neS ?_
  | with_reducible refine wop_isN ?_
  | with_reducible refine wop_notN ?_
  | ((with_reducible refine' wop_inS ?e ?_); (case e => exact rfl))
  | ((with_reducible refine' wop_niS ?e ?_); (case e => exact rfl))
  | with_reducible refine wop_inST ?_
  | with_reducible refine wcb_gcd ?_
  | with_reducible refine wcb_abs ?_
  | with_reducible refine wcb_max2 ?_
  | with_reducible refine wcb_min2 ?_
  | with_reducible refine wcb_int ?_
  | ((with_reducible refine' wcb_isi (b := true) ?ho ?hb ?_); (case ho => exact rfl); (case hb => (dsimp only [tyN]; decide +kernel)))
  | ((with_reducible refine' wcb_isi (b := false) ?ho ?hb ?_); (case ho => exact rfl); (case hb => (dsimp only [tyN]; decide +kernel)))
  | ((with_reducible refine' wcb_listOf ?e ?_); (case e => exact rfl))
  | with_reducible refine wcb_listOfT ?_
  | ((with_reducible refine' wcb_tupOf ?e ?_); (case e => exact rfl))
  | with_reducible refine w_chain ?_
  | with_reducible refine wcb_strS ?_
  | ((with_reducible refine' wcb_lenD ?e ?_); (case e => exact rfl))
  | ((with_reducible refine' wcb_listD ?e ?_); (case e => exact rfl))
  | with_reducible refine w_dnewK ?_
  | with_reducible refine w_dget ?_
  | with_reducible refine w_din ?_
  | with_reducible refine w_dni ?_
  | with_reducible refine w_lenSet ?_
  | with_reducible refine w_listVals ?_
  | with_reducible refine w_chain ?_
  | ((with_reducible refine' wt_yes ?_)))
variable {W : Wd} {a : Ad}
theorem k_law_any (T : Txt W.K W.mg a) : Cl W 5 "_law_any" (spW true fun rs k => ∃ many size : Int, rs = [.pot, .d (.int many), .d (.int size)] ∧ 1 ≤ many ∧ many ≤ 12 ∧ 0 ≤ size ∧ size ≤ 24 ∧ ∀ (sp : List (Str × Int)) (lo : List Ld), MoOk sp lo → (sp.length : Int) ≤ many → (lo.length : Int) ≤ size → k (.new (modD sp lo))) := by
  refine cl_W T.d_law_any sc_law_any bd_law_any (fun rs k ⟨_, _, h, _⟩ => by rw [h]; rfl) (body_W (n := 3) (m := 8) rfl (fun rs k ⟨_, _, h, _⟩ => by rw [h]; rfl) fun f cdv A outer s H E hr => ⟨_, (pss_cons (ps_set (i := 3) sc_law_any.nd rfl (Or.inr rfl) (pe_cl (kd_law_named T) hr (by decide) rfl (pa_cons (pv 0) (pa_cons (pe_op op_addU pe_int (pe_cl (k_law_draw T) hr (by decide) rfl (pa_cons (pv 0) (pa_cons (pv 1) pa_nil)))) (pa_cons (pe_lst pa_nil) pa_nil))))) (pss_cons (ps_set (i := 4) sc_law_any.nd rfl (Or.inl rfl) (pe_callTy (r := rDictP W.K) (call_dictPR rfl) (by rfl) T.b_dict (by decide +kernel) (pa_cons (pe_lc (own := [("_law_spot", 9)]) (g := (gName 9)) (tt := tYes) rfl sc_law_any.nd (pi_listK (K := W.K) rfl (pv 3)) (blkOk_by (N := N_law_any) (sc := defScope s_law_any) (by decide +kernel)) (fun _ _ _ _ _ => (pg_name (i := 9) sc_law_any.nd rfl (Or.inl rfl))) (fun _ _ _ _ _ => pts_nil) (fun _ _ _ _ _ => (pe_tup (pa_cons (pv 9) (pa_cons (pe_cl (k_law_pick T) hr (by decide) rfl (pa_cons (pv 0) (pa_cons (pe_lst (pa_cons pe_int (pa_cons pe_int (pa_cons pe_int (pa_cons pe_int (pa_cons pe_int (pa_cons (pe_op op_addU pe_int (pe_cl (k_law_draw T) hr (by decide) rfl (pa_cons (pv 0) (pa_cons pe_int pa_nil)))) pa_nil))))))) pa_nil))) pa_nil))))) pa_nil))) (pss_cons (ps_set (i := 5) sc_law_any.nd rfl (Or.inl rfl) (pe_cl (kd_law_named T) hr (by decide) rfl (pa_cons (pv 0) (pa_cons (pe_cl (k_law_draw T) hr (by decide) rfl (pa_cons (pv 0) (pa_cons (pe_op op_addU (pv 2) pe_int) pa_nil))) (pa_cons (pe_cl (k_law_pick T) hr (by decide) rfl (pa_cons (pv 0) (pa_cons (pe_lst (pa_cons (pe_lst pa_nil) (pa_cons (pv 3) pa_nil))) pa_nil))) pa_nil))))) (pss_cons (ps_setLc (i := 6) (own := [("_law_label", 8)]) (g := (gName 8)) (tt := tYes) rfl sc_law_any.nd rfl rfl (sw_true rfl rfl rfl (by decide +kernel)) (pi_listK (K := W.K) rfl (pv 5)) (blkOk_by (N := N_law_any) (sc := defScope s_law_any) (by decide +kernel)) (fun _ _ _ _ _ => (pg_name (i := 8) sc_law_any.nd rfl (Or.inl rfl))) (fun _ _ _ _ _ => pts_nil) (fun _ _ _ _ _ => (pe_cl (k_law_frac T) hr (by decide) rfl (pa_cons (pe_cl (k_law_draw T) hr (by decide) rfl (pa_cons (pv 0) (pa_cons pe_int pa_nil))) (pa_cons (pe_op op_addU pe_int (pe_op op_mulU (pe_cl (k_law_draw T) hr (by decide) rfl (pa_cons (pv 0) (pa_cons pe_int pa_nil))) (pe_cl (k_law_draw T) hr (by decide) rfl (pa_cons (pv 0) (pa_cons pe_int pa_nil))))) pa_nil))))) (pss_cons (ps_setLc (i := 7) (own := [("_law_label", 8), ("_law_toil", 10)]) (g := _) (tt := tYes) rfl sc_law_any.nd rfl rfl (sw_true rfl rfl rfl (by decide +kernel)) (pi_zipK (K := W.K) rfl rfl T.b_zip (pa_cons (pv 5) (pa_cons (pv 6) pa_nil))) (blkOk_by (N := N_law_any) (sc := defScope s_law_any) (by decide +kernel)) (fun _ _ _ _ _ => (pg_tupK (K := W.K) (n := 2) rfl rfl (pgs_cons (pg_name (i := 8) sc_law_any.nd rfl (Or.inl rfl)) (pgs_cons (pg_name (i := 10) sc_law_any.nd rfl (Or.inl rfl)) pgs_nil)))) (fun _ _ _ _ _ => pts_nil) (fun _ _ _ _ _ => (pe_tup (pa_cons (pv 8) (pa_cons (pe_tup (pa_cons (pv 10) (pa_cons (pe_cl (k_law_some T) hr (by decide) rfl (pa_cons (pv 0) (pa_cons (pv 3) pa_nil))) pa_nil))) pa_nil))))) (pss_one (ps_ret (pe_disp (pps_cons pe_str (pv 4) (pps_cons pe_str (pe_callTy (r := rDictP W.K) (call_dictPR rfl) (by rfl) T.b_dict (by decide +kernel) (pa_cons (pv 7) pa_nil)) pps_nil)) rfl rfl (by simp) (by decide))))))))), fun π rs kr hp hB => ?_⟩)
  obtain ⟨many, size, rfl, m0, m1, s0, s1, q⟩ := hB
  dsimp only [uns, List.replicate, List.cons_append, List.nil_append]
  repeat walk_at "wk"
  refine wcb_draw (by omega) (sz_lit (by omega)) fun d d0 d1 => ?_
  repeat walk_at "wk"
  refine wcb_named hp (tk := []) rfl (by omega) (by simp only [List.length_nil]; omega) fun ys yl yn yo => ?_
  have yl12 : ys.length ≤ 12 := by omega
  refine wg_new fun p3 => ?_
  dsimp only [List.set]
  refine ws_frz (n := 3) rfl ?_
  dsimp only [List.set]
  repeat walk_at "wk"
  refine w_lc1 (j := 9) (by decide) (fun i d x => ∃ y : Str × Int, (d = .str y.1 ∧ 1 ≤ y.2 ∧ y.2 ≤ 6) ∧ x = Dt.pairD (.inr y.1, .int y.2)) (wi_list ?_)
  repeat walk_at "wk"
  refine ⟨_, rfl, by rw [List.length_map]; omega, fun i d hd => ?_, fun xs hx hp2 => ?_⟩
  · rw [List.getElem?_map] at hd
    obtain ⟨s, hs, rfl⟩ := Option.map_eq_some_iff.mp hd
    dsimp only [List.map, wipeD, List.set]
    repeat walk_at "wk"
    refine wcb_draw (by decide) (sz_lit (by decide)) fun e e0 e1 => ?_
    repeat walk_at "wk"
    refine wcb_pick hp rfl (by simp) (by simp) fun x hx => ?_
    have hv : ∃ v : Int, x = .int v ∧ 1 ≤ v ∧ v ≤ 6 := by
      simp only [List.mem_cons, List.not_mem_nil, or_false] at hx
      rcases hx with h | h | h | h | h | h <;> exact ⟨_, h, by omega, by omega⟩
    obtain ⟨v, rfl, v0, v1⟩ := hv
    repeat walk_at "wk"
    exact ⟨_, rfl, (s, v), ⟨rfl, v0, v1⟩, rfl⟩
  obtain ⟨sp, e1, e2, e3⟩ := choose_map hx hp2
  subst e1
  clear hp2 hx
  have hkeys : sp.map (·.1) = ys := by
    apply List.ext_getElem?
    intro i
    rw [List.getElem?_map]
    rcases Nat.lt_or_ge i ys.length with h | h
    · have h2 : i < sp.length := by rw [e2, List.length_map]; exact h
      have z := e3 i (.str ys[i]) sp[i] (by rw [List.getElem?_map, List.getElem?_eq_getElem h]; rfl) (List.getElem?_eq_getElem h2)
      rw [List.getElem?_eq_getElem h, List.getElem?_eq_getElem h2]
      have z1 := z.1
      injection z1 with z1
      rw [z1]
      rfl
    · rw [List.getElem?_eq_none h, List.getElem?_eq_none (by rw [e2, List.length_map]; exact h)]
      rfl
  have hbnd : ∀ p ∈ sp, 1 ≤ p.2 ∧ p.2 ≤ 6 := by
    intro p hm
    obtain ⟨i, hi, rfl⟩ := List.mem_iff_getElem.mp hm
    have h : i < ys.length := by rw [e2, List.length_map] at hi; exact hi
    exact (e3 i (.str ys[i]) sp[i] (by rw [List.getElem?_map, List.getElem?_eq_getElem h]; rfl) (List.getElem?_eq_getElem hi)).2
  have hsp : SpOk sp := by
    refine ⟨fun z => ?_, by rw [hkeys]; exact yn, fun p hm => nm_nmB (yo p.1 (by rw [← hkeys]; exact List.mem_map.mpr ⟨p, hm, rfl⟩)).1, fun p hm => (hbnd p hm).1, fun p hm => by have := (hbnd p hm).2; omega, ?_⟩
    · rw [z] at hkeys
      have : ys.length = 0 := by rw [← hkeys]; rfl
      omega
    · rw [← List.length_map (f := (·.1)), hkeys]
      exact yl12
  have em : (sp.map fun p => Dt.pairD (.inr p.1, .int p.2)) = (spD sp).map Dt.pairD := by
    unfold spD
    rw [List.map_map]
    rfl
  rw [em]
  repeat walk_at "wk"
  refine wcb_dictP rfl ?_
  rw [mergeD_nil (by rw [spD_keys]; exact inr_nodup hsp.nd)]
  refine wg_new fun p4 => ?_
  dsimp only [List.set]
  refine ws_frz (n := 4) rfl ?_
  dsimp only [List.set]
  repeat walk_at "wk"
  refine wcb_draw (by omega) (sz_lit (by omega)) fun ns n0 n1 => ?_
  repeat walk_at "wk"
  refine wcb_pick hp rfl (by simp) (by simp) fun x hx => ?_
  have hv : ∃ tk : List Str, x = .lst (tk.map D.str) ∧ tk.length ≤ 12 := by
    simp only [List.mem_cons, List.not_mem_nil, or_false] at hx
    rcases hx with h | h
    · exact ⟨[], h, by simp⟩
    · exact ⟨ys, h, yl12⟩
  obtain ⟨tk, rfl, tl⟩ := hv
  repeat walk_at "wk"
  refine wcb_named hp (tk := tk) rfl n0 (by omega) fun ls ll ln lo' => ?_
  have ll24 : ls.length ≤ 24 := by omega
  refine wg_new fun p5 => ?_
  dsimp only [List.set]
  refine ws_frz (n := 5) rfl ?_
  dsimp only [List.set]
  repeat walk_at "wk"
  refine w_lc1 (j := 8) (by decide) (fun i d x => ∃ q : Rat, (0 ≤ q.num ∧ Sz 300 q.num ∧ (q.den : Int) ∣ 60) ∧ x = fracQ q) (wi_list ?_)
  repeat walk_at "wk"
  refine ⟨_, rfl, by rw [List.length_map]; omega, fun i d hd => ?_, fun xs hx hp2 => ?_⟩
  · rw [List.getElem?_map] at hd
    obtain ⟨s, hs, rfl⟩ := Option.map_eq_some_iff.mp hd
    dsimp only [List.map, wipeD, List.set]
    repeat walk_at "wk"
    refine wcb_draw (by decide) (sz_lit (by decide)) fun u u0 u1 => ?_
    repeat walk_at "wk"
    refine wcb_draw (by decide) (sz_lit (by decide)) fun v v0 v1 => ?_
    repeat walk_at "wk"
    refine wcb_draw (by decide) (sz_lit (by decide)) fun w w0 w1 => ?_
    have hvw : 0 ≤ v * w ∧ v * w ≤ 5 := by
      have : v = 0 ∨ v = 1 := by omega
      rcases this with rfl | rfl
      · rw [Int.zero_mul]; omega
      · rw [Int.one_mul]; omega
    repeat walk_at "wk"
    · refine wcb_fracQ (by omega) (sz_mono (sz_lit (by omega)) (by decide)) (sz_mono (sz_lit (by omega)) (by decide)) ?_
      exact ⟨_, rfl, _, q_small u0 u1 (by omega) (by omega), rfl⟩
    · exact cmul_sz (sz_lit (n := v) (by omega)) (sz_lit (n := w) (by omega))
  obtain ⟨fq, f1, f2, f3⟩ := choose_map hx hp2
  subst f1
  clear hp2 hx
  rw [List.length_map] at f2
  have hfq : ∀ q ∈ fq, 0 ≤ q.num ∧ Sz 300 q.num ∧ (q.den : Int) ∣ 60 := by
    intro q hm
    obtain ⟨i, hi, rfl⟩ := List.mem_iff_getElem.mp hm
    exact f3 i (.str (ls[i]'(by omega))) fq[i] (by rw [List.getElem?_map, List.getElem?_eq_getElem (by omega)]; rfl) (List.getElem?_eq_getElem hi)
  clear f3
  refine wg_new fun p6 => ?_
  dsimp only [List.set]
  refine ws_frz (n := 6) rfl ?_
  dsimp only [List.set]
  repeat walk_at "wk"
  refine w_lc (gn_tup (gn_cons (gn_name (by decide)) (gn_cons (gn_name (by decide)) gn_nil gm_name) gm_name)) (wi_zip ?_)
  repeat walk_at "wk"
  have hlen : (zipD (ls.map D.str) (fq.map fracQ)).length = ls.length := by rw [zipD_len, List.length_map, List.length_map]; omega
  refine ⟨_, _, rfl, fun i acc => ∃ lo : List Ld, acc = lo.map rowD ∧ lo.length = i ∧ ∀ (m : Nat) (t : Ld), lo[m]? = some t → ls[m]? = some t.1 ∧ t.2.1 ∈ fq ∧ t.2.2 ≠ [] ∧ t.2.2.Nodup ∧ (∀ h ∈ t.2.2, h ∈ ys) ∧ t.2.2.length ≤ 12, ⟨[], rfl, rfl, fun m t h => by simp at h⟩, fun i d acc hd hI => ?_, fun acc hI => ?_⟩
  · obtain ⟨x, y, h1, h2, rfl⟩ := zipD_get hd
    have hi := (List.getElem?_eq_some_iff.mp hd).1
    rw [List.getElem?_map] at h1 h2
    obtain ⟨s, hs, rfl⟩ := Option.map_eq_some_iff.mp h1
    obtain ⟨p, hq, rfl⟩ := Option.map_eq_some_iff.mp h2
    obtain ⟨lo, rfl, l1, l2⟩ := hI
    dsimp only [List.map, wipeD, List.set]
    repeat walk_at "wk"
    refine wcb_W hp (rs := [.pot, .d (.lst (ys.map D.str))]) rfl ⟨_, rfl, ?_, by rw [List.length_map]; omega, fun es n pm nn1 nn2 => ?_⟩
    · intro z
      have := congrArg List.length z
      rw [List.length_map, List.length_nil] at this
      omega
    rw [List.length_map] at nn2
    obtain ⟨zs, rfl, zp⟩ := perm_strs pm
    rw [← List.map_take]
    repeat walk_at "wk"
    refine ⟨_, rfl, by rw [List.length_map]; omega, lo ++ [(s, p, zs.take n)], by rw [List.map_append]; rfl, by rw [List.length_append, l1]; rfl, fun m t ht => ?_⟩
    rcases Nat.lt_or_ge m lo.length with hm | hm
    · rw [List.getElem?_append_left hm] at ht
      exact l2 m t ht
    · rw [List.getElem?_append_right hm] at ht
      have hm2 : m - lo.length < 1 := by simpa using (List.getElem?_eq_some_iff.mp ht).1
      have em : m = i := by omega
      subst em
      rw [l1, Nat.sub_self] at ht
      cases ht
      have zl := zp.length_eq
      refine ⟨hs, List.mem_of_getElem? hq, fun z => ?_, (zp.nodup_iff.mpr yn).sublist (List.take_sublist ..), fun h hh => zp.mem_iff.mp (List.mem_of_mem_take hh), ?_⟩
      · have := congrArg List.length z
        rw [List.length_take, List.length_nil] at this
        omega
      · show (zs.take n).length ≤ 12
        rw [List.length_take]
        omega
  rw [hlen] at hI
  obtain ⟨lo, rfl, l1, l2⟩ := hI
  have hkl : lo.map (·.1) = ls := by
    apply List.ext_getElem?
    intro i
    rw [List.getElem?_map]
    rcases Nat.lt_or_ge i lo.length with h | h
    · rw [(l2 i lo[i] (List.getElem?_eq_getElem h)).1, List.getElem?_eq_getElem h]
      rfl
    · rw [List.getElem?_eq_none h, List.getElem?_eq_none (by omega)]
      rfl
  have hat : ∀ t ∈ lo, t.2.1 ∈ fq ∧ t.2.2 ≠ [] ∧ t.2.2.Nodup ∧ (∀ h ∈ t.2.2, h ∈ ys) ∧ t.2.2.length ≤ 12 := by
    intro t hm
    obtain ⟨i, hi, rfl⟩ := List.mem_iff_getElem.mp hm
    exact (l2 i lo[i] (List.getElem?_eq_getElem hi)).2
  have ok : MoOk sp lo := ⟨hsp, by rw [hkl]; exact ln, fun t hm => nm_nmB (lo' t.1 (by rw [← hkl]; exact List.mem_map.mpr ⟨t, hm, rfl⟩)).1, by omega, fun t hm => (hfq _ (hat t hm).1).1, fun t hm => (hat t hm).2.1, fun t hm => (hat t hm).2.2.1,
    fun t hm h hh => by rw [hkeys]; exact (hat t hm).2.2.2.1 h hh, fun t hm => (hat t hm).2.2.2.2, 60, by rw [List.length_map]; omega, fun q hm => by
      obtain ⟨t, ht, rfl⟩ := List.mem_map.mp hm
      exact (hfq _ (hat t ht).1).2.1, by decide, sz_mono (n := 6) (show (60 : Int).natAbs < 2 ^ 6 by decide) (by decide), fun q hm => by
      obtain ⟨t, ht, rfl⟩ := List.mem_map.mp hm
      exact (hfq _ (hat t ht).1).2.2⟩
  rw [rowD_eq]
  refine wg_new fun p7 => ?_
  dsimp only [List.set]
  refine ws_frz (n := 7) rfl ?_
  dsimp only [List.set]
  repeat walk_at "wk"
  refine w_disp (show 2 ≤ 15 by decide) (wpp_cons ?_)
  repeat walk_at "wk"
  refine wpp_cons ?_
  repeat walk_at "wk"
  refine wcb_dictP rfl ?_
  rw [mergeD_nil (by rw [loD_keys]; exact inr_nodup ok.nd)]
  refine wpp_nil ?_
  refine ⟨_, rfl, show 2 ≤ 15 by decide, out_new ?_⟩
  rw [mergeD_nil (by show [(Sum.inr "rates" : Key), .inr "loads"].Nodup; decide)]
  refine q sp lo ok ?_ (by omega)
  have z := congrArg List.length hkeys
  rw [List.length_map] at z
  omega
end Lw
namespace Dt
open PySem PySem.Spec PyProof.Rows L2 Ly
def ldAt (lo : List Ld) (s : Str) : Ld := (lo.find? fun t => decide (t.1 = s)).getD (s, 0, [])
theorem ldAt_mem : ∀ {tk : List Ld} {t : Ld}, (tk.map (·.1)).Nodup → t ∈ tk → ldAt tk t.1 = t
  | [], _, _, h => nomatch h
  | u :: tk, t, hn, h => by
    rw [List.map_cons, List.nodup_cons] at hn
    rcases List.mem_cons.mp h with rfl | h
    · simp [ldAt, List.find?_cons]
    · have hk : u.1 ≠ t.1 := fun z => hn.1 (by rw [z]; exact List.mem_map.mpr ⟨_, h, rfl⟩)
      have e1 : ldAt (u :: tk) t.1 = ldAt tk t.1 := by simp [ldAt, List.find?_cons, hk]
      rw [e1]
      exact ldAt_mem hn.2 h
/-- the yard of a model -/
def canon (sp : List (Str × Int)) (lo : List Ld) : Yd := ⟨(sortN (sp.map (·.1))).map fun s => (s, spV sp s), (sortN (lo.map (·.1))).map fun s => (s, (ldAt lo s).2.1, sortN (ldAt lo s).2.2)⟩
theorem loD_at {sp : List (Str × Int)} {lo : List Ld} (ok : MoOk sp lo) {s : Str} (hs : s ∈ lo.map (·.1)) : valD (loD lo) (.inr s) = some (.tup [fracQ (ldAt lo s).2.1, .lst ((ldAt lo s).2.2.map .str)]) ∧ ldAt lo s ∈ lo ∧ (ldAt lo s).1 = s := by
  obtain ⟨t, ht, rfl⟩ := List.mem_map.mp hs
  rw [ldAt_mem ok.nd ht]
  exact ⟨valD_mem (by rw [loD_keys]; exact inr_nodup ok.nd) (List.mem_map.mpr ⟨t, ht, rfl⟩), ht, rfl⟩
def rowT (t : Tk) : D := Dt.pairD (.inr t.nm, .tup [t.d, t.x])
theorem rowT_eq (tk : List Tk) : tk.map rowT = (tkD tk).map Dt.pairD := by
  unfold tkD
  rw [List.map_map]
  rfl
theorem sp_perm {sp : List (Str × Int)} {zs : List Str} (ok : SpOk sp) (p : zs.Perm (sp.map (·.1))) : SpOk (zs.map fun s => (s, spV sp s)) ∧ ∀ s ∈ zs, spV (zs.map fun s => (s, spV sp s)) s = spV sp s := by
  have hn : zs.Nodup := p.nodup_iff.mpr ok.nd
  have hk : (zs.map fun s => (s, spV sp s)).map (·.1) = zs := by
    rw [List.map_map]
    exact List.map_id' zs
  have hm : ∀ q ∈ (zs.map fun s => (s, spV sp s)), ∃ r ∈ sp, q = r := by
    intro q hq
    obtain ⟨s, hs, rfl⟩ := List.mem_map.mp hq
    obtain ⟨r, hr, rfl⟩ := List.mem_map.mp (p.mem_iff.mp hs)
    exact ⟨r, hr, by rw [spV_mem ok.nd hr]⟩
  refine ⟨⟨fun z => ok.ne ?_, by rw [hk]; exact hn, fun q hq => ?_, fun q hq => ?_, fun q hq => ?_, ?_⟩, fun s hs => ?_⟩
  · have h1 := p.length_eq
    have h2 := congrArg List.length z
    rw [List.length_map] at h1 h2
    exact List.length_eq_zero_iff.mp (by rw [← h1, h2]; rfl)
  · obtain ⟨r, hr, rfl⟩ := hm q hq; exact ok.nm q hr
  · obtain ⟨r, hr, rfl⟩ := hm q hq; exact ok.lo q hr
  · obtain ⟨r, hr, rfl⟩ := hm q hq; exact ok.hi q hr
  · have h1 := p.length_eq
    rw [List.length_map] at h1
    rw [List.length_map, h1]
    exact ok.lt
  · exact spV_mem (sp := zs.map fun s => (s, spV sp s)) (p := (s, spV sp s)) (by rw [hk]; exact hn) (List.mem_map.mpr ⟨s, hs, rfl⟩)
section
variable {π : Po} {δ : List Rv} {k : Rv → Prop} {t : TA} {C R : Addr}
theorem w_yard2 (q : WpA π t δ fun as => ∃ (sp : List (Str × Int)) (tk : List Tk), fzA as = some [.d (.dct (spD sp)), .d (.dct (tkD tk))] ∧ SpOk sp ∧ TksOk R (sp.map (·.1)) tk ∧ k (.d (.obj C (yardF R (norm sp tk))))) : Wp π (tMake C (spI C false (bYard C R)) [] E0 t) δ k := by
  refine w_make (drs := []) trivial ?_
  intro X H σ Q o e h
  refine q X H σ Q o e fun vs as H1 k1 a w => h vs as H1 k1 a ?_
  obtain ⟨sp, tk, hf, ok, okt, kk⟩ := w
  exact ⟨_, hf, rfl, rfl, sp, tk, _, rfl, .inl rfl, ok, okt, kk⟩
end
end Dt
namespace Lw
open PySem PySem.Spec PyProof.Rows L2 Ly Dt
local macro_rules | `(tactic| walk_at "wk") => `(tactic| first
  | ((with_reducible refine' w_var ?hv ?hn ?_); (case hv => exact rfl); (case hn => (intro z; cases z)))
  | with_reducible refine w_int ?_
  | with_reducible refine w_str ?_
  | with_reducible refine w_op ?_
  | with_reducible refine wa_cons ?_
  | with_reducible refine wa_nil ?_
  | with_reducible refine w_reprL ?_
  | with_reducible refine w_isi2 ?_
  | with_reducible refine w_cb ?_
  | with_reducible refine w_call ?_
  | ((with_reducible refine' ws_retV ?hv ?_); (case hv => exact rfl))
  | with_reducible refine ws_seq ?_
  | with_reducible refine ws_asg ?_
  | with_reducible refine ws_ret ?_
  | with_reducible refine ws_if ?_
  | with_reducible refine ws_next ?_
  | ((with_reducible refine' ws_append ?hv ?hz ?_); (case hv => exact rfl); rotate_left)
  | with_reducible refine ws_drop ?_
  | with_reducible refine ws_retN ?_
  | ((with_reducible refine wg_d ?_); dsimp only [List.set])
  | ((with_reducible refine wg_raw ?_); dsimp only [List.set])
  | ((with_reducible refine wg_E ?_))
  | ((with_reducible refine' we_tup ?hl ?_); (case hl => exact rfl))
  | with_reducible refine wes_cons ?_
  | with_reducible refine wes_nil ?_
  | ((with_reducible refine we_name ?_); dsimp only [List.set])
  | with_reducible refine out_d ?_
  | with_reducible refine out_new ?_
  | with_reducible refine ex_bl ?_
  | with_reducible refine ite_t ?_
  | ((with_reducible refine ex_fzd ?_); dsimp only [List.set, List.nil_append, List.cons_append])
  | ((with_reducible refine ex_fzn ?_); dsimp only [List.set, List.nil_append, List.cons_append])
  | with_reducible refine ite_nt ?_
  | with_reducible refine ite_nf ?_
  | with_reducible refine ite_f ?_
  | with_reducible refine wt_tb ?_
  | with_reducible refine wt_test ?_
  | with_reducible refine wt_and ?_
  | with_reducible refine wt_or ?_
  | with_reducible refine wt_not ?_
  | with_reducible refine w_andV ?_
  | with_reducible refine w_orV ?_
  | with_reducible refine w_notV ?_
  | with_reducible refine w_if ?_
  | with_reducible refine w_bl ?_
  | with_reducible refine w_non ?_
  | with_reducible refine w_ty ?_
  | with_reducible refine w_ref ?_
  | with_reducible refine w_un ?_
  | ((with_reducible refine w_tup ?_); skip)
  | ((with_reducible refine w_lst ?_); skip)
  | ((with_reducible refine' Exists.intro _ (And.intro ?hf (And.intro ?hl ?_))); (case hf => exact rfl); (case hl => exact Nat.le_of_ble_eq_true rfl))
  | with_reducible refine w_fld ?_
  | ((with_reducible refine' fld_of ?ho ?c ?n ?l ?_); (case ho => exact rfl); (case c => assumption); (case n => with_reducible assumption); (case l => exact rfl))
  | with_reducible refine wp_top ?_
  | with_reducible refine wp_bot ?_
  | with_reducible refine w_prop ?_
  | with_reducible refine w_meth ?_
  | with_reducible refine w_smeth ?_
  | with_reducible refine wop_addI ?_
  | with_reducible refine wop_subI ?_
  | ((with_reducible refine' wop_mulI ?c ?_); rotate_left)
  | ((with_reducible refine' wop_fdI ?c ?_); rotate_left)
  | with_reducible refine wop_mdI (by first | decide | assumption) ?_
  | ((with_reducible refine' wop_mdI ?c ?_); rotate_left)
  | ((with_reducible refine' wop_I0 ?e ?_); (case e => exact rfl))
  | ((with_reducible refine' wop_ixT ?e ?_); (case e => exact rfl))
  | ((with_reducible refine' wcb_lenL ?e ?_); (case e => exact rfl))
  | with_reducible refine wcb_lenT ?_
  | ((with_reducible refine' wop_fdX ?c ?_); rotate_left)
  | ((with_reducible refine' wun_U ?e ?_); (case e => exact rfl))
  | with_reducible refine wop_eqI ?_
  | with_reducible refine wop_neI ?_
  | with_reducible refine wop_eqS ?_
  | with_reducible refine wop_neS ?_
  | with_reducible refine wop_isN ?_
  | with_reducible refine wop_notN ?_
  | ((with_reducible refine' wop_inS ?e ?_); (case e => exact rfl))
  | ((with_reducible refine' wop_niS ?e ?_); (case e => exact rfl))
  | with_reducible refine wop_inST ?_
  | with_reducible refine wcb_gcd ?_
  | with_reducible refine wcb_abs ?_
  | with_reducible refine wcb_max2 ?_
  | with_reducible refine wcb_min2 ?_
  | with_reducible refine wcb_int ?_
  | ((with_reducible refine' wcb_isi (b := true) ?ho ?hb ?_); (case ho => exact rfl); (case hb => (dsimp only [tyN]; decide +kernel)))
  | ((with_reducible refine' wcb_isi (b := false) ?ho ?hb ?_); (case ho => exact rfl); (case hb => (dsimp only [tyN]; decide +kernel)))
  | ((with_reducible refine' wcb_listOf ?e ?_); (case e => exact rfl))
  | with_reducible refine wcb_listOfT ?_
  | ((with_reducible refine' wcb_tupOf ?e ?_); (case e => exact rfl))
  | with_reducible refine w_chain ?_
  | with_reducible refine wcb_strS ?_
  | ((with_reducible refine' wcb_lenD ?e ?_); (case e => exact rfl))
  | ((with_reducible refine' wcb_listD ?e ?_); (case e => exact rfl))
  | with_reducible refine w_dnewK ?_
  | with_reducible refine w_dget ?_
  | with_reducible refine w_din ?_
  | with_reducible refine w_dni ?_
  | with_reducible refine w_lenSet ?_
  | with_reducible refine w_listVals ?_
  | with_reducible refine w_chain ?_
  | ((with_reducible refine' wt_yes ?_)))
variable {W : Wd} {a : Ad}
theorem k_law_yard (T : Txt W.K W.mg a) : Cl W 9 "_law_yard" (spW true fun rs k => ∃ (sp : List (Str × Int)) (lo : List Ld), rs = [.pot, .d (modD sp lo)] ∧ MoOk sp lo ∧ k (.d (yd a.Yard a.Ratio (canon sp lo)))) := by
  refine cl_W T.d_law_yard sc_law_yard bd_law_yard (fun rs k ⟨_, _, h, _⟩ => by rw [h]; rfl) (body_W (n := 2) (m := 6) rfl (fun rs k ⟨_, _, h, _⟩ => by rw [h]; rfl) fun f cdv A outer s H E hr => ⟨_, (pss_cons (ps_set (i := 2) sc_law_yard.nd rfl (Or.inl rfl) (pe_callTy (r := rDictP W.K) (call_dictPR rfl) (by rfl) T.b_dict (by decide +kernel) (pa_cons (pe_lc (own := [("_law_spot", 7)]) (g := (gName 7)) (tt := tYes) rfl sc_law_yard.nd (pi_listK (K := W.K) rfl (pe_cl (kd_law_mixed T) hr (by decide) rfl (pa_cons (pv 0) (pa_cons (pe_callB (r := rSortedR) (call_sortedR rfl) (by rfl) T.b_sorted (by decide +kernel) (pa_cons (pe_dget (room_u1 hr) (pv 1) pe_str (fun _ _ => rfl)) pa_nil)) pa_nil)))) (blkOk_by (N := N_law_yard) (sc := defScope s_law_yard) (by decide +kernel)) (fun _ _ _ _ _ => (pg_name (i := 7) sc_law_yard.nd rfl (Or.inl rfl))) (fun _ _ _ _ _ => pts_nil) (fun _ _ _ _ _ => (pe_tup (pa_cons (pv 7) (pa_cons (pe_dget (room_u1 hr) (pe_dget (room_u1 hr) (pv 1) pe_str (fun _ _ => rfl)) (pv 7) (fun _ _ => rfl)) pa_nil))))) pa_nil))) (pss_cons (ps_set (i := 3) sc_law_yard.nd rfl (Or.inl rfl) (pe_lst pa_nil)) (pss_cons (ps_for PassesOwn.never rfl (pi_listK (K := W.K) rfl (pe_cl (kd_law_mixed T) hr (by decide) rfl (pa_cons (pv 0) (pa_cons (pe_callB (r := rSortedR) (call_sortedR rfl) (by rfl) T.b_sorted (by decide +kernel) (pa_cons (pe_dget (room_u1 hr) (pv 1) pe_str (fun _ _ => rfl)) pa_nil)) pa_nil)))) (pg_name (i := 4) sc_law_yard.nd rfl (Or.inl rfl)) (pss_cons (ps_asg (pe_dget (room_u1 hr) (pe_dget (room_u1 hr) (pv 1) pe_str (fun _ _ => rfl)) (pv 4) (fun _ _ => rfl)) (pg_tupK (K := W.K) (n := 2) rfl rfl (pgs_cons (pg_name (i := 5) sc_law_yard.nd rfl (Or.inl rfl)) (pgs_cons (pg_name (i := 6) sc_law_yard.nd rfl (Or.inl rfl)) pgs_nil)))) (pss_one (ps_expr (pe_bmK (K := W.K) rfl PySem.F.plainAttrs_list PySem.F.slot_list_append PySem.F.type_list_append mt_append (pv 3) (pa_cons (pe_tup (pa_cons (pv 4) (pa_cons (pe_tup (pa_cons (pe_cl (k_law_number T) hr (by decide) rfl (pa_cons (pv 0) (pa_cons (pv 5) pa_nil))) (pa_cons (pe_cl (kd_law_mixed T) hr (by decide) rfl (pa_cons (pv 0) (pa_cons (pv 6) pa_nil))) pa_nil))) pa_nil))) pa_nil)))))) (pss_one (ps_ret (pe_mak (m_Yard2 T) hr (by decide) rfl (pa_cons (pv 2) (pa_cons (pe_callTy (r := rDictP W.K) (call_dictPR rfl) (by rfl) T.b_dict (by decide +kernel) (pa_cons (pv 3) pa_nil)) pa_nil)))))))), fun π rs kr hp hB => ?_⟩)
  obtain ⟨sp, lo, rfl, ok, q⟩ := hB
  dsimp only [uns, List.replicate, List.cons_append, List.nil_append]
  have lsp := ok.so.lt
  have llo := ok.len
  repeat walk_at "wk"
  refine w_lcM (j := 7) (by decide) (fun d => match d with | .str s => Dt.pairD (.inr s, .int (spV sp s)) | _ => .non) (wi_list ?_)
  repeat walk_at "wk"
  refine ⟨_, _, _, _, rfl, rfl, rfl, rates_at, ?_⟩
  repeat walk_at "wk"
  refine wcb_sortedD (ks := sp.map (·.1)) rfl (spD_keys sp) (by rw [List.length_map]; omega) fun ys pm so => ?_
  repeat walk_at "wk"
  refine wcb_mixed hp rfl (by rw [List.length_map, pm.length_eq, List.length_map]; omega) fun es pe => ?_
  obtain ⟨zs, rfl, pz⟩ := perm_strs pe
  have pzk : zs.Perm (sp.map (·.1)) := pz.trans pm
  have lz : zs.length = sp.length := by rw [pzk.length_eq, List.length_map]
  clear pe pz pm so
  refine ⟨_, rfl, by rw [List.length_map]; omega, fun d hd => ?_, ?_⟩
  · obtain ⟨s, hm, rfl⟩ := List.mem_map.mp hd
    dsimp only [List.map, wipeD, List.set]
    repeat walk_at "wk"
    refine ⟨_, _, _, _, rfl, rfl, rfl, rates_at, ?_⟩
    repeat walk_at "wk"
    refine ⟨_, _, _, _, rfl, rfl, rfl, spD_at ok.so (pzk.mem_iff.mp hm), ?_⟩
    repeat walk_at "wk"
    rfl
  obtain ⟨ok2, hv2⟩ := sp_perm ok.so pzk
  have e1 : ((zs.map D.str).map fun d => match d with | .str s => Dt.pairD (.inr s, .int (spV sp s)) | _ => .non) = (spD (zs.map fun s => (s, spV sp s))).map Dt.pairD := by
    unfold spD
    rw [List.map_map, List.map_map, List.map_map]
    rfl
  rw [e1]
  repeat walk_at "wk"
  refine wcb_dictP rfl ?_
  rw [mergeD_nil (by rw [spD_keys]; exact inr_nodup ok2.nd)]
  refine wg_new fun p2 => ?_
  dsimp only [List.set]
  refine ws_frz (n := 2) rfl ?_
  dsimp only [List.set]
  repeat walk_at "wk"
  refine wg_new fun p3 => ?_
  dsimp only [List.set]
  repeat walk_at "wk"
  refine ws_for (wi_list ?_)
  repeat walk_at "wk"
  refine ⟨_, _, _, _, rfl, rfl, rfl, loads_at, ?_⟩
  repeat walk_at "wk"
  refine wcb_sortedD (ks := lo.map (·.1)) rfl (loD_keys lo) (by rw [List.length_map]; omega) fun ys pm so => ?_
  repeat walk_at "wk"
  refine wcb_mixed hp rfl (by rw [List.length_map, pm.length_eq, List.length_map]; omega) fun es pe => ?_
  obtain ⟨ws, rfl, pw⟩ := perm_strs pe
  have pwk : ws.Perm (lo.map (·.1)) := pw.trans pm
  have lw : ws.length = lo.length := by rw [pwk.length_eq, List.length_map]
  clear pe pw pm so
  refine ⟨_, rfl, fun i δ => ∃ (tk : List Tk) (r4 r5 r6 : Rv), δ = [.pot, .d (modD sp lo), .d (.dct (spD (zs.map fun s => (s, spV sp s)))), .own p3 (.lst (tk.map rowT)), r4, r5, r6, .un] ∧ tk.map (·.nm) = ws.take i ∧
    ∀ t ∈ tk, NumQ a.Ratio t.d t.q ∧ t.q = (ldAt lo t.nm).2.1 ∧ t.x = .lst (t.hs.map .str) ∧ t.hs.Perm (ldAt lo t.nm).2.2, ⟨[], _, _, _, rfl, rfl, fun t h => nomatch h⟩, fun i d δ' hd hI => ?_, fun δ' hI => ?_⟩
  · obtain ⟨tk, r4, r5, r6, rfl, hk, hat⟩ := hI
    rw [List.getElem?_map] at hd
    obtain ⟨s, hs, rfl⟩ := Option.map_eq_some_iff.mp hd
    have hm := pwk.mem_iff.mp (List.mem_of_getElem? hs)
    obtain ⟨g1, g2, g3⟩ := loD_at ok hm
    have hi := (List.getElem?_eq_some_iff.mp hs).1
    have htk : tk.length ≤ 24 := by
      have := congrArg List.length hk
      rw [List.length_map, List.length_take] at this
      omega
    have hhl := ok.hl _ g2
    repeat walk_at "wk"
    refine ⟨_, _, _, _, rfl, rfl, rfl, loads_at, ?_⟩
    repeat walk_at "wk"
    refine ⟨_, _, _, _, rfl, rfl, rfl, g1, ?_⟩
    repeat walk_at "wk"
    · have hz3 : SzQ 1300 (ldAt lo s).2.1 := by
        obtain ⟨L, hL⟩ := ok.qs
        have hm3 : (ldAt lo s).2.1 ∈ lo.map fun t => t.2.1 := List.mem_map.mpr ⟨_, g2, rfl⟩
        exact ⟨sz_mono (hL.num _ hm3) (by decide), sz_mono (hL.den0 hm3) (by decide)⟩
      refine wcb_W hp (rs := [.pot, .d (fracQ (ldAt lo s).2.1)]) rfl ⟨_, rfl, hz3, fun nd nq => ?_⟩
      repeat walk_at "wk"
      refine wcb_mixed hp rfl (by rw [List.length_map]; omega) fun es pe => ?_
      obtain ⟨vs2, rfl, pv2⟩ := perm_strs pe
      repeat walk_at "wk"
      refine ⟨tk ++ [⟨s, nd, (ldAt lo s).2.1, .lst (vs2.map .str), vs2⟩], _, _, _, by rw [List.map_append]; rfl, ?_, fun t ht => ?_⟩
      · have et : ws.take (i + 1) = ws.take i ++ [s] := by rw [List.take_add_one, hs]; rfl
        rw [et, List.map_append, hk]
        rfl
      · rcases List.mem_append.mp ht with ht | ht
        · exact hat t ht
        · rw [List.mem_singleton.mp ht]
          exact ⟨nq, rfl, rfl, pv2⟩
    · rw [List.length_map]
      omega
  · obtain ⟨tk, r4, r5, r6, rfl, hk, hat⟩ := hI
    rw [List.length_map, List.take_length] at hk
    have hwn : ws.Nodup := pwk.nodup_iff.mpr ok.nd
    have hkn : (tk.map (·.nm)).Nodup := by rw [hk]; exact hwn
    have htl : tk.length = lo.length := by
      have := congrArg List.length hk
      rw [List.length_map] at this
      omega
    have hlm : ∀ t ∈ tk, ldAt lo t.nm ∈ lo ∧ (ldAt lo t.nm).1 = t.nm := fun t ht => by
      have z := (loD_at ok (s := t.nm) (pwk.mem_iff.mp (by rw [← hk]; exact List.mem_map.mpr ⟨t, ht, rfl⟩))).2
      exact z
    have hzk : (zs.map fun s => (s, spV sp s)).map (·.1) = zs := by
      rw [List.map_map]
      exact List.map_id' zs
    have okt : TksOk a.Ratio ((zs.map fun s => (s, spV sp s)).map (·.1)) tk := by
      obtain ⟨L, hL⟩ := ok.qs
      refine ⟨hkn, fun t ht => ?_, fun t ht => ?_, by omega⟩
      · have z := ok.nm _ (hlm t ht).1
        rw [(hlm t ht).2] at z
        exact z
      · obtain ⟨h1, h2, h3, h4⟩ := hat t ht
        have hm := (hlm t ht).1
        have hm3 : (ldAt lo t.nm).2.1 ∈ lo.map fun t => t.2.1 := List.mem_map.mpr ⟨_, hm, rfl⟩
        refine ⟨h1, by rw [h2]; exact ok.q0 _ hm, by rw [h2]; exact sz_mono (hL.num _ hm3) (by decide), by rw [h3]; exact .lst _, by rw [h3]; exact fun kd z => (by cases z), fun z => ok.ne _ hm ?_, h4.nodup_iff.mpr (ok.hnd _ hm), fun h hh => ?_, by rw [h4.length_eq]; exact ok.hl _ hm⟩
        · rw [z] at h4
          exact (List.nil_perm.mp h4)
        · rw [hzk]
          exact pzk.mem_iff.mpr (ok.sub _ hm h (h4.mem_iff.mp hh))
    rw [rowT_eq]
    repeat walk_at "wk"
    refine w_yard2 ?_
    repeat walk_at "wk"
    refine wcb_dictP rfl ?_
    rw [mergeD_nil (by rw [tkD_keys]; exact inr_nodup hkn)]
    repeat walk_at "wk"
    refine ⟨_, tk, rfl, ok2, okt, out_d ?_⟩
    have e : norm (zs.map fun s => (s, spV sp s)) tk = canon sp lo := by
      unfold norm canon
      rw [hzk, hk, sortN_of pzk, sortN_of pwk]
      congr 1
      · apply List.map_congr_left
        intro s hs
        have hz := pzk.mem_iff.mpr (sortN_mem.mp hs)
        rw [hv2 s hz]
      · apply List.map_congr_left
        intro s hs
        have hw := pwk.mem_iff.mpr (sortN_mem.mp hs)
        rw [← hk] at hw
        obtain ⟨t1, t2⟩ := tk_at okt hw
        obtain ⟨h1, h2, h3, h4⟩ := hat _ t1
        rw [t2] at h2 h4
        rw [h2, sortN_of h4]
    rw [e]
    exact q
end Lw
namespace Dt
open PySem PySem.Spec PyProof.Rows L2 Ly GR
theorem one_over {r : Int} (h : 0 < r) : fracQ (Rat.divInt 1 r) = .tup [.int 1, .int r] ∧ Rat.divInt 1 r = 1 / (r : Rat) := by
  refine ⟨?_, ?_⟩
  · have hr : r ≠ 0 := by omega
    have e1 : (Rat.divInt 1 r).num = 1 := by
      rw [Rat.num_divInt, Int.sign_eq_one_of_pos h, Int.gcd_one]
      rfl
    have e2 : ((Rat.divInt 1 r).den : Int) = r := by
      rw [Rat.den_divInt, if_neg hr, Int.gcd_one, Nat.div_one]
      exact Int.natAbs_of_nonneg (by omega)
    unfold fracQ
    rw [e1, e2]
  · have z := div_q (p := 1) (q := (r : Rat))
    simpa using z
/-- the text of what is due of a set -/
def dueT (names : List Str) (w : Rat) (r : Int) : Str := listText [listText (names.map reprText), rtx w, toString r, rtx (w / (r : Rat))]
theorem shws_strs {ρ : D → Str → Prop} {k n : Nat} : ∀ {ss : List Str}, (∀ s ∈ ss, (reprText s).length ≤ sizeLine) → Shws ρ k n (ss.map D.str) (ss.map reprText)
  | [], _ => .nil
  | s :: ss, h => .cons (.str (h s List.mem_cons_self)) (shws_strs fun t ht => h t (List.mem_cons_of_mem _ ht))
theorem nmB_rp {x : Str} (h : nmB x = true) : (reprText x).length ≤ 82 := by
  unfold nmB at h
  rw [Bool.and_eq_true, Bool.and_eq_true, decide_eq_true_eq, decide_eq_true_eq, List.all_eq_true] at h
  have z := StrLaws.reprText_len x fun c hc => by
    have := h.2.2 c hc
    unfold lowB at this
    rw [Bool.and_eq_true, decide_eq_true_eq, decide_eq_true_eq] at this
    have h2 : (122 : Nat) < 16 ^ 8 := by decide
    omega
  omega
theorem rtx_len {q : Rat} (z : SzQ 1900 q) : (rtx q).length ≤ 4009 := by
  have l1 := it_len z.1
  have l2 := it_len z.2
  have c0 : Str.empty.length = 0 := by decide
  have c1 : (Str.ofString "Ratio(").length = 6 := by decide
  have c2 : (Str.ofString ", ").length = 2 := by decide
  have c3 : (Str.ofString ")").length = 1 := by decide
  unfold rtx
  rw [strLen_append, strLen_append, strLen_append, strLen_append, strLen_append]
  omega
theorem sum_le_mul {m : Nat} : ∀ {xs : List Nat}, (∀ x ∈ xs, x ≤ m) → xs.sum ≤ xs.length * m
  | [], _ => Nat.zero_le _
  | x :: xs, h => by
    have h1 := h x List.mem_cons_self
    have h2 := sum_le_mul (xs := xs) fun y hy => h y (List.mem_cons_of_mem _ hy)
    rw [List.sum_cons, List.length_cons, Nat.add_mul, Nat.one_mul]
    omega
theorem names_len {ss : List Str} (h : ∀ s ∈ ss, nmB s = true) (hl : ss.length ≤ 24) : (listText (ss.map reprText)).length ≤ 2100 := by
  have z := listText_len_le (ss.map reprText)
  have z2 := sum_le_mul (m := 82) (xs := (ss.map reprText).map (·.length)) fun x hx => by
    obtain ⟨t, ht, rfl⟩ := List.mem_map.mp hx
    obtain ⟨s, hs, rfl⟩ := List.mem_map.mp ht
    exact nmB_rp (h s hs)
  rw [List.length_map, List.length_map] at z2
  rw [List.length_map] at z
  have : ss.length * 82 ≤ 24 * 82 := Nat.mul_le_mul_right _ hl
  omega
theorem dueT_len {names : List Str} {w : Rat} {r : Int} (h : ∀ s ∈ names, nmB s = true) (hl : names.length ≤ 24) (zw : SzQ 1900 w) (zr : Sz 1900 r) (zd : SzQ 1900 (w / (r : Rat))) : (dueT names w r).length ≤ 100000 := by
  have z := listText_len_le [listText (names.map reprText), rtx w, It r, rtx (w / (r : Rat))]
  have l1 := names_len h hl
  have l2 := rtx_len zw
  have l3 := it_len zr
  have l4 := rtx_len zd
  simp only [List.map_cons, List.map_nil, List.sum_cons, List.sum_nil, List.length_cons, List.length_nil] at z
  unfold dueT
  exact Nat.le_trans z (by omega)
end Dt
namespace Lw
open PySem PySem.Spec PyProof.Rows L2 Ly Dt
local macro_rules | `(tactic| walk_at "wk") => `(tactic| first
  | ((with_reducible refine' w_var ?hv ?hn ?_); (case hv => exact rfl); (case hn => (intro z; cases z)))
  | with_reducible refine w_int ?_
  | with_reducible refine w_str ?_
  | with_reducible refine w_op ?_
  | with_reducible refine wa_cons ?_
  | with_reducible refine wa_nil ?_
  | with_reducible refine w_reprL ?_
  | with_reducible refine w_isi2 ?_
  | with_reducible refine w_cb ?_
  | with_reducible refine w_call ?_
  | ((with_reducible refine' ws_retV ?hv ?_); (case hv => exact rfl))
  | with_reducible refine ws_seq ?_
  | with_reducible refine ws_asg ?_
  | with_reducible refine ws_ret ?_
  | with_reducible refine ws_if ?_
  | with_reducible refine ws_next ?_
  | ((with_reducible refine' ws_append ?hv ?hz ?_); (case hv => exact rfl); rotate_left)
  | with_reducible refine ws_drop ?_
  | with_reducible refine ws_retN ?_
  | ((with_reducible refine wg_d ?_); dsimp only [List.set])
  | ((with_reducible refine wg_raw ?_); dsimp only [List.set])
  | ((with_reducible refine wg_E ?_))
  | ((with_reducible refine' we_tup ?hl ?_); (case hl => exact rfl))
  | with_reducible refine wes_cons ?_
  | with_reducible refine wes_nil ?_
  | ((with_reducible refine we_name ?_); dsimp only [List.set])
  | with_reducible refine out_d ?_
  | with_reducible refine out_new ?_
  | with_reducible refine ex_bl ?_
  | with_reducible refine ite_t ?_
  | ((with_reducible refine ex_fzd ?_); dsimp only [List.set, List.nil_append, List.cons_append])
  | ((with_reducible refine ex_fzn ?_); dsimp only [List.set, List.nil_append, List.cons_append])
  | with_reducible refine ite_nt ?_
  | with_reducible refine ite_nf ?_
  | with_reducible refine ite_f ?_
  | with_reducible refine wt_tb ?_
  | with_reducible refine wt_test ?_
  | with_reducible refine wt_and ?_
  | with_reducible refine wt_or ?_
  | with_reducible refine wt_not ?_
  | with_reducible refine w_andV ?_
  | with_reducible refine w_orV ?_
  | with_reducible refine w_notV ?_
  | with_reducible refine w_if ?_
  | with_reducible refine w_bl ?_
  | with_reducible refine w_non ?_
  | with_reducible refine w_ty ?_
  | with_reducible refine w_ref ?_
  | with_reducible refine w_un ?_
  | ((with_reducible refine w_tup ?_); skip)
  | ((with_reducible refine w_lst ?_); skip)
  | ((with_reducible refine' Exists.intro _ (And.intro ?hf (And.intro ?hl ?_))); (case hf => exact rfl); (case hl => exact Nat.le_of_ble_eq_true rfl))
  | with_reducible refine w_fld ?_
  | ((with_reducible refine' fld_of ?ho ?c ?n ?l ?_); (case ho => exact rfl); (case c => assumption); (case n => with_reducible assumption); (case l => exact rfl))
  | with_reducible refine wp_top ?_
  | with_reducible refine wp_bot ?_
  | with_reducible refine w_prop ?_
  | with_reducible refine w_meth ?_
  | with_reducible refine w_smeth ?_
  | with_reducible refine wop_addI ?_
  | with_reducible refine wop_subI ?_
  | ((with_reducible refine' wop_mulI ?c ?_); rotate_left)
  | ((with_reducible refine' wop_fdI ?c ?_); rotate_left)
  | with_reducible refine wop_mdI (by first | decide | assumption) ?_
  | ((with_reducible refine' wop_mdI ?c ?_); rotate_left)
  | ((with_reducible refine' wop_I0 ?e ?_); (case e => exact rfl))
  | ((with_reducible refine' wop_ixT ?e ?_); (case e => exact rfl))
  | ((with_reducible refine' wcb_lenL ?e ?_); (case e => exact rfl))
  | with_reducible refine wcb_lenT ?_
  | ((with_reducible refine' wop_fdX ?c ?_); rotate_left)
  | ((with_reducible refine' wun_U ?e ?_); (case e => exact rfl))
  | with_reducible refine wop_eqI ?_
  | with_reducible refine wop_neI ?_
  | with_reducible refine wop_eqS ?_
  | with_reducible refine wop_neS ?_
  | with_reducible refine wop_isN ?_
  | with_reducible refine wop_notN ?_
  | ((with_reducible refine' wop_inS ?e ?_); (case e => exact rfl))
  | ((with_reducible refine' wop_niS ?e ?_); (case e => exact rfl))
  | with_reducible refine wop_inST ?_
  | with_reducible refine wcb_gcd ?_
  | with_reducible refine wcb_abs ?_
  | with_reducible refine wcb_max2 ?_
  | with_reducible refine wcb_min2 ?_
  | with_reducible refine wcb_int ?_
  | ((with_reducible refine' wcb_isi (b := true) ?ho ?hb ?_); (case ho => exact rfl); (case hb => (dsimp only [tyN]; decide +kernel)))
  | ((with_reducible refine' wcb_isi (b := false) ?ho ?hb ?_); (case ho => exact rfl); (case hb => (dsimp only [tyN]; decide +kernel)))
  | ((with_reducible refine' wcb_listOf ?e ?_); (case e => exact rfl))
  | with_reducible refine wcb_listOfT ?_
  | ((with_reducible refine' wcb_tupOf ?e ?_); (case e => exact rfl))
  | with_reducible refine w_chain ?_
  | with_reducible refine wcb_strS ?_
  | ((with_reducible refine' wcb_lenD ?e ?_); (case e => exact rfl))
  | ((with_reducible refine' wcb_listD ?e ?_); (case e => exact rfl))
  | with_reducible refine w_dnewK ?_
  | with_reducible refine w_dget ?_
  | with_reducible refine w_din ?_
  | with_reducible refine w_dni ?_
  | with_reducible refine w_lenSet ?_
  | with_reducible refine w_listVals ?_
  | with_reducible refine w_chain ?_
  | ((with_reducible refine' wt_yes ?_)))
variable {W : Wd} {a : Ad}
theorem k_law_due (T : Txt W.K W.mg a) : ClG W 9 "_law_due" (spW false fun rs k => ∃ (sp : List (Str × Int)) (lo : List Ld) (ps : List Str), rs = [.d (modD sp lo), .d (.lst (ps.map D.str))] ∧ MoOk sp lo ∧ ps ≠ [] ∧ ps.length ≤ 12 ∧ (∀ p ∈ ps, p ∈ sp.map (·.1)) ∧
    k (.d (.str (dueT (sortN ((lconf lo ps).map (·.1))) ((lconf lo ps).map fun t => t.2.1).sum (ps.map (spV sp)).sum)))) := by
  refine clg_W T.d_law_due sc_law_due bd_law_due (fun rs k ⟨_, _, _, h, _⟩ => by rw [h]; rfl) (body_G (n := 2) (m := 5) rfl (fun rs k ⟨_, _, _, h, _⟩ => by rw [h]; rfl) fun f cdv A outer s H E hr hgd => ⟨_, (pss_cons (ps_set (i := 2) sc_law_due.nd rfl (Or.inl rfl) (pe_callB (r := rSortedS W.K) cr_sortedS (by rfl) T.b_sorted (by decide +kernel) (pa_cons (pe_lockO (pe_lc (own := [("_law_label", 6)]) (g := (gName 6)) (tt := _) rfl sc_law_due.nd (pi_keys (pe_dget (room_u1 hr) (pv 0) pe_str (fun _ _ => rfl))) (blkOk_by (N := N_law_due) (sc := defScope s_law_due) (by decide +kernel)) (fun _ _ _ _ _ => (pg_name (i := 6) sc_law_due.nd rfl (Or.inl rfl))) (fun _ _ _ _ _ => (pts_one (pt_val (pe_cl (k_law_is_within T) hr (by decide) rfl (pa_cons (pe_ix (r := rIx W.K) ix_U (pe_dget (room_u1 hr) (pe_dget (room_u1 hr) (pv 0) pe_str (fun _ _ => rfl)) (pv 6) (fun _ _ => rfl)) pe_int (fun _ _ => rfl)) (pa_cons (pv 1) pa_nil)))))) (fun _ _ _ _ _ => (pv 6)))) pa_nil))) (pss_cons (ps_par (i := 4) (j := 5) (by rfl) sc_law_due.nd rfl rfl (by decide) rfl rfl (pa_cons (pe_cl (k_law_weight T) hr (by decide) rfl (pa_cons (pv 0) (pa_cons (pv 1) pa_nil))) (pa_cons (pe_cl (k_law_rate T) hr (by decide) rfl (pa_cons (pv 0) (pa_cons (pv 1) pa_nil))) pa_nil)) (by rfl)) (pss_cons (ps_set (i := 3) sc_law_due.nd rfl (Or.inl rfl) (pe_cl (k_law_times T) hr (by decide) rfl (pa_cons (pv 4) (pa_cons (pe_tup (pa_cons pe_int (pa_cons (pv 5) pa_nil))) pa_nil)))) (pss_one (ps_ret (pe_callB (r := rShow (rhoQ a.Ratio) 1 5) (call_show (hr.mono (by decide)) hgd (rho_of (mt_rrepr T))) (by rfl) T.b_repr (by decide +kernel) (pa_cons (pe_lst (pa_cons (pv 2) (pa_cons (pe_mak (m_Ratio2 T) hr (by decide) rfl (pa_cons (pe_ix (r := rIx W.K) ix_U (pv 4) pe_int (fun _ _ => rfl)) (pa_cons (pe_ix (r := rIx W.K) ix_U (pv 4) pe_int (fun _ _ => rfl)) pa_nil))) (pa_cons (pv 5) (pa_cons (pe_mak (m_Ratio2 T) hr (by decide) rfl (pa_cons (pe_ix (r := rIx W.K) ix_U (pv 3) pe_int (fun _ _ => rfl)) (pa_cons (pe_ix (r := rIx W.K) ix_U (pv 3) pe_int (fun _ _ => rfl)) pa_nil))) pa_nil))))) pa_nil))))))), fun π rs kr hp hB => ?_⟩)
  obtain ⟨sp, lo, ps, rfl, ok, hn, hl, hs, q⟩ := hB
  dsimp only [uns, List.replicate, List.cons_append, List.nil_append]
  repeat walk_at "wk"
  have llo := ok.len
  refine w_lcKF (j := 6) (by decide) (fun d => match d with | .str s => (ldAt lo s).2.2.all (fun h => decide (h ∈ ps)) | _ => false) (fun d => d) (std_dget (std_var rfl) loads_at) (by unfold loD; rw [List.length_map]; omega) (fun d hd => ?_) (fun d hd hp2 => ?_) ?_
  · rw [keys_str (loD_keys lo)] at hd
    obtain ⟨s, hs2, rfl⟩ := List.mem_map.mp hd
    obtain ⟨g1, g2, g3⟩ := loD_at ok hs2
    have hhl := ok.hl _ g2
    dsimp only [List.map, wipeD, List.set]
    repeat walk_at "wk"
    refine ⟨_, _, _, _, rfl, rfl, rfl, loads_at, ?_⟩
    repeat walk_at "wk"
    refine ⟨_, _, _, _, rfl, rfl, rfl, g1, ?_⟩
    repeat walk_at "wk"
    refine wcb_W0 (rs := [.d (.lst ((ldAt lo s).2.2.map D.str)), .d (.lst (ps.map D.str))]) rfl rfl ⟨_, _, rfl, by omega, fun z => (by cases z), ?_⟩
    repeat walk_at "wk"
    rfl
  · rw [keys_str (loD_keys lo)] at hd
    obtain ⟨s, hs2, rfl⟩ := List.mem_map.mp hd
    dsimp only [List.map, wipeD, List.set]
    repeat walk_at "wk"
    rfl
  have e1 : (((loD lo).map fun p => dKey p.1).filter fun d => match d with | .str s => (ldAt lo s).2.2.all (fun h => decide (h ∈ ps)) | _ => false).map (fun d => d) = ((lconf lo ps).map (·.1)).map D.str := by
    rw [keys_str (loD_keys lo), List.map_id', List.filter_map, List.filter_map, List.map_map, List.map_map]
    unfold lconf
    rw [List.filter_congr (q := fun t => t.2.2.all fun s => decide (s ∈ ps)) fun t ht => by
      show (ldAt lo t.1).2.2.all (fun h => decide (h ∈ ps)) = _
      rw [ldAt_mem ok.nd ht]]
  rw [e1]
  have hlc : (lconf lo ps).length ≤ 24 := Nat.le_trans (List.length_filter_le _ _) llo
  repeat walk_at "wk"
  refine wcb_sortedS rfl (by rw [List.length_map]; omega) fun ys pm so => ?_
  rw [sortN_eq pm so]
  refine wg_new fun p2 => ?_
  dsimp only [List.set]
  refine ws_frz (n := 2) rfl ?_
  dsimp only [List.set]
  repeat walk_at "wk"
  refine ws_par ?_
  repeat walk_at "wk"
  refine wcb_W0 (rs := [.d (modD sp lo), .d (.lst (ps.map D.str))]) rfl rfl ⟨sp, lo, ps, rfl, ok, fun z => (by cases z), ?_⟩
  repeat walk_at "wk"
  refine wcb_W0 (rs := [.d (modD sp lo), .d (.lst (ps.map D.str))]) rfl rfl ⟨sp, lo, ps, rfl, ok.so, by omega, hs, fun z => (by cases z), ?_⟩
  repeat walk_at "wk"
  refine ⟨_, _, rfl, ?_⟩
  dsimp only [List.set]
  repeat walk_at "wk"
  have hps : 1 ≤ (ps.map (spV sp)).sum ∧ (ps.map (spV sp)).sum ≤ 12000 := by
    have key : ∀ ts : List Str, (∀ s ∈ ts, s ∈ sp.map (·.1)) → (ts.length : Int) ≤ (ts.map (spV sp)).sum ∧ (ts.map (spV sp)).sum ≤ ts.length * 1000 := by
      intro ts
      induction ts with
      | nil => intro _; simp
      | cons t ts ih =>
        intro ht
        have h1 := ih fun s m => ht s (List.mem_cons_of_mem _ m)
        obtain ⟨p, hp, rfl⟩ := List.mem_map.mp (ht t List.mem_cons_self)
        have h2 := ok.so.lo p hp
        have h3 := ok.so.hi p hp
        rw [List.map_cons, List.sum_cons, List.length_cons, spV_mem ok.so.nd hp]
        omega
    have z := key ps hs
    have := List.length_pos_iff.mpr hn
    omega
  generalize hr : (ps.map (spV sp)).sum = r at hps q ⊢
  obtain ⟨r1, r2⟩ := hps
  obtain ⟨L, hL⟩ := ok.qs
  have hqs : QsOk ((lconf lo ps).map fun t => t.2.1) L := hL.sub (fun x hx => by
    obtain ⟨t, ht, rfl⟩ := List.mem_map.mp hx
    exact List.mem_map.mpr ⟨t, (List.mem_filter.mp ht).1, rfl⟩) (by rw [List.length_map]; omega)
  have zw := hqs.sum
  generalize hw : ((lconf lo ps).map fun t => t.2.1).sum = w at zw q ⊢
  obtain ⟨o1, o2⟩ := one_over (show 0 < r by omega)
  have zr : Sz 4000 r := sz_lit (by omega)
  have zq1 : SzQ 4000 (Rat.divInt 1 r) := by
    have hr0 : r ≠ 0 := by omega
    refine ⟨?_, ?_⟩
    · rw [← nu_q hr0]
      exact sz_le (x := 1) (sz_1 (by decide)) (nu_le _ _ hr0)
    · rw [← de_q hr0]
      exact sz_le zr (de_le _ _ hr0)
  refine wcb_W0 (rs := [.d (fracQ w), .d (fracQ (Rat.divInt 1 r))]) (by rw [o1]; rfl) rfl ⟨w, _, rfl, ⟨sz_mono zw.1 (by decide), sz_mono zw.2 (by decide)⟩, zq1, fun z => (by cases z), ?_⟩
  have ew : w * Rat.divInt 1 r = w / (r : Rat) := by
    rw [o2, Rat.div_def, Rat.div_def, Rat.one_mul]
  rw [ew]
  have z9 := hqs.sum9
  rw [hw] at z9
  have zw9 : SzQ 1900 w := ⟨sz_mono z9.1 (by decide), sz_mono z9.2 (by decide)⟩
  have zd9 : SzQ 1900 (w / (r : Rat)) := by
    have hd : ((w.den : Int) * r) ≠ 0 := Int.mul_ne_zero (Int.ne_of_gt (den_pos w)) (by omega)
    have e := div_q (p := w) (q := (r : Rat))
    rw [int_num, int_den] at e
    rw [← e]
    have hd' : ((w.den : Int) * r) ≠ 0 := hd
    refine ⟨?_, ?_⟩
    · rw [← nu_q hd']
      exact sz_mono (sz_le (sz_mul z9.1 (sz_1 (n := 1) (by decide))) (nu_le _ _ hd')) (by decide)
    · rw [← de_q hd']
      exact sz_mono (sz_le (sz_mul z9.2 (show Sz 14 r by show r.natAbs < 2 ^ 14; omega)) (de_le _ _ hd')) (by decide)
  have hrat : ∀ p : Rat, Rat.divInt p.num (p.den : Int) = p := q_lo
  repeat walk_at "wk"
  refine w_ratio2 ?_
  repeat walk_at "wk"
  refine ⟨_, _, rfl, Int.ne_of_gt (den_pos w), sz_mono zw9.1 (by decide), sz_mono zw9.2 (by decide), ?_⟩
  rw [hrat]
  repeat walk_at "wk"
  refine w_ratio2 ?_
  repeat walk_at "wk"
  refine ⟨_, _, rfl, Int.ne_of_gt (den_pos _), sz_mono zd9.1 (by decide), sz_mono zd9.2 (by decide), ?_⟩
  rw [hrat]
  repeat walk_at "wk"
  have hnm : ∀ s ∈ sortN ((lconf lo ps).map (·.1)), nmB s = true := fun s hs2 => by
    obtain ⟨t, ht, rfl⟩ := List.mem_map.mp (sortN_mem.mp hs2)
    exact ok.nm t (List.mem_filter.mp ht).1
  have zr9 : Sz 1900 r := sz_mono (n := 14) (show r.natAbs < 2 ^ 14 by omega) (by decide)
  have hln := dueT_len hnm (by rw [sortN_len, List.length_map]; omega) zw9 zr9 zd9
  generalize sortN ((lconf lo ps).map (·.1)) = ns at hnm hln q ⊢
  have w1 : Shw (rhoQ a.Ratio) 1 4 (.lst (ns.map D.str)) (listText (ns.map reprText)) := .lst (shws_strs fun s hs2 => sl_of (Nat.le_trans (nmB_rp (hnm s hs2)) (by decide)))
  have w2 : Shw (rhoQ a.Ratio) 1 4 (ratQ a.Ratio w) (rtx w) := .obj ⟨w, rfl, zw9, rfl⟩ (by decide)
  have w3 : Shw (rhoQ a.Ratio) 1 4 (.int r) (toString r) := .int (it_log zr9)
  have w4 : Shw (rhoQ a.Ratio) 1 4 (ratQ a.Ratio (w / (r : Rat))) (rtx (w / (r : Rat))) := .obj ⟨_, rfl, zd9, rfl⟩ (by decide)
  have w5 : Shw (rhoQ a.Ratio) 1 5 (.lst [.lst (ns.map D.str), ratQ a.Ratio w, .int r, ratQ a.Ratio (w / (r : Rat))]) (listText [listText (ns.map reprText), rtx w, toString r, rtx (w / (r : Rat))]) := .lst (.cons w1 (.cons w2 (.cons w3 (.cons w4 .nil))))
  unfold dueT at hln q
  generalize listText [listText (ns.map reprText), rtx w, toString r, rtx (w / (r : Rat))] = tx at w5 hln q
  exact ⟨_, _, rfl, show 4 ≤ 4000 by decide, w5, sl_of hln, out_d q⟩
end Lw
namespace Dt
open PySem PySem.Spec PyProof.Rows L2 Ly
theorem canon_sp {sp : List (Str × Int)} {lo : List Ld} : (canon sp lo).sp.map (·.1) = sortN (sp.map (·.1)) := by
  unfold canon
  dsimp only
  rw [List.map_map]
  exact List.map_id' _
theorem canon_tk {sp : List (Str × Int)} {lo : List Ld} : (canon sp lo).tk.map (·.1) = sortN (lo.map (·.1)) := by
  unfold canon
  dsimp only
  rw [List.map_map]
  exact List.map_id' _
theorem canon_sp_mem {sp : List (Str × Int)} {lo : List Ld} (ok : MoOk sp lo) {p : Str × Int} (h : p ∈ (canon sp lo).sp) : p ∈ sp := by
  unfold canon at h
  obtain ⟨s, hs, rfl⟩ := List.mem_map.mp h
  obtain ⟨r, hr, rfl⟩ := List.mem_map.mp (sortN_mem.mp hs)
  rw [spV_mem ok.so.nd hr]
  exact hr
theorem canon_tk_mem {sp : List (Str × Int)} {lo : List Ld} (ok : MoOk sp lo) {t : Str × Rat × List Str} (h : t ∈ (canon sp lo).tk) : ∃ u ∈ lo, t = (u.1, u.2.1, sortN u.2.2) := by
  unfold canon at h
  obtain ⟨s, hs, rfl⟩ := List.mem_map.mp h
  obtain ⟨u, hu, rfl⟩ := List.mem_map.mp (sortN_mem.mp hs)
  refine ⟨u, hu, ?_⟩
  rw [ldAt_mem ok.nd hu]
theorem canon_ok {sp : List (Str × Int)} {lo : List Ld} (ok : MoOk sp lo) : YOk (canon sp lo) := by
  obtain ⟨L, hL⟩ := ok.qs
  refine ⟨by rw [canon_sp]; exact sortN_nodup ok.so.nd, ?_, fun p hp => ok.so.lo p (canon_sp_mem ok hp), fun p hp => ok.so.hi p (canon_sp_mem ok hp), by rw [canon_tk]; exact sortN_nodup ok.nd, ?_, fun t ht => ?_, fun t ht => ?_, fun t ht => ?_, L, hL.pos, sz_mono hL.sz (by decide), fun t ht => ?_⟩
  · have z := congrArg List.length (canon_sp (sp := sp) (lo := lo))
    rw [List.length_map, sortN_len, List.length_map] at z
    rw [z]
    exact ok.so.lt
  · have z := congrArg List.length (canon_tk (sp := sp) (lo := lo))
    rw [List.length_map, sortN_len, List.length_map] at z
    rw [z]
    exact ok.len
  · obtain ⟨u, hu, rfl⟩ := canon_tk_mem ok ht
    exact sortN_nodup (ok.hnd u hu)
  · obtain ⟨u, hu, rfl⟩ := canon_tk_mem ok ht
    show (sortN u.2.2).length ≤ 12
    rw [sortN_len]
    exact ok.hl u hu
  · obtain ⟨u, hu, rfl⟩ := canon_tk_mem ok ht
    exact sz_mono (hL.num _ (List.mem_map.mpr ⟨u, hu, rfl⟩)) (by decide)
  · obtain ⟨u, hu, rfl⟩ := canon_tk_mem ok ht
    exact hL.den _ (List.mem_map.mpr ⟨u, hu, rfl⟩)
theorem all_perm {as bs : List Str} (p : as.Perm bs) (P : Str → Bool) : as.all P = bs.all P := by
  rw [Bool.eq_iff_iff, List.all_eq_true, List.all_eq_true]
  exact ⟨fun h x hx => h x (p.mem_iff.mpr hx), fun h x hx => h x (p.mem_iff.mp hx)⟩
/-- what is confined in the yard of a model is what is confined in the model -/
theorem conf_canon {sp : List (Str × Int)} {lo : List Ld} (ok : MoOk sp lo) {ss ps : List Str} (p : ss.Perm ps) : (conf (canon sp lo) ss).map (·.1) = sortN ((lconf lo ps).map (·.1)) := by
  have hn : (sortN (lo.map (·.1))).Nodup := sortN_nodup ok.nd
  have e : (conf (canon sp lo) ss).map (·.1) = (sortN (lo.map (·.1))).filter fun s => (ldAt lo s).2.2.all fun h => decide (h ∈ ps) := by
    unfold conf canon
    dsimp only
    rw [List.filter_map, List.map_map]
    have e1 : (Prod.fst ∘ fun s : Str => (s, (ldAt lo s).2.1, sortN (ldAt lo s).2.2)) = id := rfl
    show ((sortN (lo.map (·.1))).filter _).map (Prod.fst ∘ fun s : Str => (s, (ldAt lo s).2.1, sortN (ldAt lo s).2.2)) = _
    rw [e1, List.map_id]
    apply List.filter_congr
    intro s _
    show (sortN (ldAt lo s).2.2).all (fun p => decide (p ∈ ss)) = _
    rw [all_perm (sortN_perm _)]
    congr 1
    funext h
    exact decide_eq_decide.mpr p.mem_iff
  rw [e]
  refine pw_unique ?_ ((sortN_pw _).sublist List.filter_sublist) (sortN_pw _)
  have e2 : (lconf lo ps).map (·.1) = (lo.map (·.1)).filter fun s => (ldAt lo s).2.2.all fun h => decide (h ∈ ps) := by
    unfold lconf
    rw [List.filter_map]
    congr 1
    apply List.filter_congr
    intro t ht
    show _ = (ldAt lo t.1).2.2.all fun h => decide (h ∈ ps)
    rw [ldAt_mem ok.nd ht]
  refine List.Perm.trans ?_ (sortN_perm _).symm
  rw [e2]
  exact (sortN_perm _).filter _
theorem ratsum_perm {as bs : List Rat} (p : as.Perm bs) : as.sum = bs.sum := by
  induction p with
  | nil => rfl
  | cons x _ ih => rw [List.sum_cons, List.sum_cons, ih]
  | swap x y l => rw [List.sum_cons, List.sum_cons, List.sum_cons, List.sum_cons, ← Rat.add_assoc, ← Rat.add_assoc, Rat.add_comm y x]
  | trans _ _ h1 h2 => exact h1.trans h2
theorem intsum_perm {as bs : List Int} (p : as.Perm bs) : as.sum = bs.sum := by
  induction p with
  | nil => rfl
  | cons x _ ih => rw [List.sum_cons, List.sum_cons, ih]
  | swap x y l => rw [List.sum_cons, List.sum_cons, List.sum_cons, List.sum_cons]; omega
  | trans _ _ h1 h2 => exact h1.trans h2
theorem conf_sum {sp : List (Str × Int)} {lo : List Ld} (ok : MoOk sp lo) {ss ps : List Str} (p : ss.Perm ps) : ((conf (canon sp lo) ss).map fun t => t.2.1).sum = ((lconf lo ps).map fun t => t.2.1).sum := by
  have h1 : ((conf (canon sp lo) ss).map fun t => t.2.1) = ((conf (canon sp lo) ss).map (·.1)).map fun s => (ldAt lo s).2.1 := by
    rw [List.map_map]
    apply List.map_congr_left
    intro t ht
    obtain ⟨u, hu, rfl⟩ := canon_tk_mem ok (List.mem_filter.mp ht).1
    show u.2.1 = (ldAt lo u.1).2.1
    rw [ldAt_mem ok.nd hu]
  have h2 : ((lconf lo ps).map fun t => t.2.1) = ((lconf lo ps).map (·.1)).map fun s => (ldAt lo s).2.1 := by
    rw [List.map_map]
    apply List.map_congr_left
    intro t ht
    show t.2.1 = (ldAt lo t.1).2.1
    rw [ldAt_mem ok.nd (List.mem_filter.mp ht).1]
  rw [h1, h2, conf_canon ok p]
  exact ratsum_perm ((sortN_perm _).map _)
theorem spS_canon {sp : List (Str × Int)} {lo : List Ld} (ok : MoOk sp lo) {ss ps : List Str} (p : ss.Perm ps) (hs : ∀ x ∈ ps, x ∈ sp.map (·.1)) : spS (canon sp lo) ss = (ps.map (spV sp)).sum := by
  unfold spS
  rw [intsum_perm (p.map _)]
  congr 1
  apply List.map_congr_left
  intro s hm
  have hin : (s, spV sp s) ∈ (canon sp lo).sp := List.mem_map.mpr ⟨s, sortN_mem.mpr (hs s hm), rfl⟩
  exact spV_mem (p := (s, spV sp s)) (by rw [canon_sp]; exact sortN_nodup ok.so.nd) hin
end Dt
namespace Dt
open PySem PySem.Spec PyProof.Rows L2 Ly
section
variable {π : Po} {δ : List Rv} {k : Rv → Prop} {ta : TE} {tk : TA} {C : Addr} {m : Str} {sp : Sp} {n : Nat}
/-- o.m(x = e, ..) -/
theorem w_methK (q : Wp π ta δ fun r => (∃ fd, r.ob = some (C, fd) ∧ fd.lookup m = none) ∧ WpA π tk δ fun as => as.length = n ∧ WCb π (fun vs H Q => sp vs H Q E0) (r :: as) k) : Wp π (tMethK0 C m n sp (· ++ ·) ta tk) δ k := fun X H σ Q o e h => by
  refine q X H σ _ o e fun v r H1 k1 a w => ?_
  obtain ⟨⟨fd, ho, hm⟩, w⟩ := w
  obtain ⟨p, dx, fs, rfl, e1, e2, _⟩ := a.ob ho
  refine ⟨p, dx, fs, rfl, e1, lookup_no e2 hm, ?_⟩
  have o1 := o.keep k1
  refine w X H1 σ _ o1 (e.keep o k1) fun vs as H2 k2 a2 w2 => ?_
  obtain ⟨hl, w2⟩ := w2
  refine ⟨by rw [← a2.length]; exact hl, ?_⟩
  exact w2 X H H2 (.ref p :: vs) Q o (o1.keep k2) (k1.trans k2) ⟨a.keep o1 k1 o k2, a2.base o k1⟩ fun v z H' k3 ra kz => h v z H' ((k1.trans k2).trans k3) ra kz
end
section
variable {π : Po} {δ : List Rv} {k : Ke} {t : TA} {i j : Nat}
theorem ws_parF (q : WpA π t δ fun rs => ∃ r1 r2 x y, rs = [r1, r2] ∧ r1.fz = some x ∧ r2.fz = some y ∧ k.nx ((δ.set i (.d x)).set j (.d y))) : Ws π (tPar i j t) k δ := fun H0 X0 L X H σ D iv ev ow en => by
  refine q X H σ _ iv.ok ev fun vs rs H1 k1 a w => ?_
  obtain ⟨r1, r2, x, y, rfl, f1, f2, kk⟩ := w
  have iv1 := iv.keep k1
  have ev1 := ev.keep iv.ok k1
  match vs, a with
  | [v1, v2], ⟨a1, a2, _⟩ =>
    have a1 : At (cut X H1) v1 x := a1.fz iv.ok f1
    have a2 : At (cut X H1) v2 y := a2.fz iv.ok f2
    refine ⟨v1, v2, rfl, ?_⟩
    exact we_name (kn := fun δ' => δ' = δ.set i (.d x)) (i := i) rfl X H1 σ v1 (fun σ1 H' => D.nx (σ1.set j (some v2)) H') iv1.ok ev1 a1 fun σ1 δ1 ev2 s1 e1 =>
      we_name (kn := fun δ' => δ' = δ1.set j (.d y)) (i := j) rfl X H1 σ1 v2 (fun σ2 H' => D.nx σ2 H') iv1.ok ev2 a2 fun σ2 δ2 ev3 s2 e2 =>
        en.nx X H1 σ2 δ2 iv1 ev3 (fun l r p h1 h2 => ow l r p (s1 l r p (s2 l r p h1 h2) h2) h2) (iv.ok.fr k1) (by rw [e2, e1]; exact kk)
end
end Dt
namespace Dt
open PySem PySem.Spec PyProof.Rows L2 Ly GR Lw
theorem due_shw {R : Addr} {sp : List (Str × Int)} {lo : List Ld} {ps : List Str} (ok : MoOk sp lo) (hn : ps ≠ []) (hl : ps.length ≤ 12) (hs : ∀ p ∈ ps, p ∈ sp.map (·.1)) :
    Shw (rhoQ R) 1 5 (.lst [.lst ((sortN ((lconf lo ps).map (·.1))).map D.str), ratQ R ((lconf lo ps).map fun t => t.2.1).sum, .int (ps.map (spV sp)).sum, ratQ R (((lconf lo ps).map fun t => t.2.1).sum / ((ps.map (spV sp)).sum : Rat))])
      (dueT (sortN ((lconf lo ps).map (·.1))) ((lconf lo ps).map fun t => t.2.1).sum (ps.map (spV sp)).sum) ∧
    (dueT (sortN ((lconf lo ps).map (·.1))) ((lconf lo ps).map fun t => t.2.1).sum (ps.map (spV sp)).sum).length ≤ 100000 := by
  have llo := ok.len
  have hlc : (lconf lo ps).length ≤ 24 := Nat.le_trans (List.length_filter_le _ _) llo
  have hps : 1 ≤ (ps.map (spV sp)).sum ∧ (ps.map (spV sp)).sum ≤ 12000 := by
    have key : ∀ ts : List Str, (∀ s ∈ ts, s ∈ sp.map (·.1)) → (ts.length : Int) ≤ (ts.map (spV sp)).sum ∧ (ts.map (spV sp)).sum ≤ ts.length * 1000 := by
      intro ts
      induction ts with
      | nil => intro _; simp
      | cons t ts ih =>
        intro ht
        have h1 := ih fun s m => ht s (List.mem_cons_of_mem _ m)
        obtain ⟨p, hp, rfl⟩ := List.mem_map.mp (ht t List.mem_cons_self)
        have h2 := ok.so.lo p hp
        have h3 := ok.so.hi p hp
        rw [List.map_cons, List.sum_cons, List.length_cons, spV_mem ok.so.nd hp]
        omega
    have z := key ps hs
    have := List.length_pos_iff.mpr hn
    omega
  generalize hr : (ps.map (spV sp)).sum = r at hps ⊢
  obtain ⟨r1, r2⟩ := hps
  obtain ⟨L, hL⟩ := ok.qs
  have hqs : QsOk ((lconf lo ps).map fun t => t.2.1) L := hL.sub (fun x hx => by
    obtain ⟨t, ht, rfl⟩ := List.mem_map.mp hx
    exact List.mem_map.mpr ⟨t, (List.mem_filter.mp ht).1, rfl⟩) (by rw [List.length_map]; omega)
  have zw := hqs.sum
  generalize hw : ((lconf lo ps).map fun t => t.2.1).sum = w at zw ⊢
  have z9 := hqs.sum9
  rw [hw] at z9
  have zw9 : SzQ 1900 w := ⟨sz_mono z9.1 (by decide), sz_mono z9.2 (by decide)⟩
  have zd9 : SzQ 1900 (w / (r : Rat)) := by
    have hd : ((w.den : Int) * r) ≠ 0 := Int.mul_ne_zero (Int.ne_of_gt (den_pos w)) (by omega)
    have e := div_q (p := w) (q := (r : Rat))
    rw [int_num, int_den] at e
    rw [← e]
    have hd' : ((w.den : Int) * r) ≠ 0 := hd
    refine ⟨?_, ?_⟩
    · rw [← nu_q hd']
      exact sz_mono (sz_le (sz_mul z9.1 (sz_1 (n := 1) (by decide))) (nu_le _ _ hd')) (by decide)
    · rw [← de_q hd']
      exact sz_mono (sz_le (sz_mul z9.2 (show Sz 14 r by show r.natAbs < 2 ^ 14; omega)) (de_le _ _ hd')) (by decide)
  have hnm : ∀ s ∈ sortN ((lconf lo ps).map (·.1)), nmB s = true := fun s hs2 => by
    obtain ⟨t, ht, rfl⟩ := List.mem_map.mp (sortN_mem.mp hs2)
    exact ok.nm t (List.mem_filter.mp ht).1
  have zr9 : Sz 1900 r := sz_mono (n := 14) (show r.natAbs < 2 ^ 14 by omega) (by decide)
  have hln := dueT_len hnm (by rw [sortN_len, List.length_map]; omega) zw9 zr9 zd9
  generalize sortN ((lconf lo ps).map (·.1)) = ns at hnm hln ⊢
  have w1 : Shw (rhoQ R) 1 4 (.lst (ns.map D.str)) (listText (ns.map reprText)) := .lst (shws_strs fun s hs2 => sl_of (Nat.le_trans (nmB_rp (hnm s hs2)) (by decide)))
  have w2 : Shw (rhoQ R) 1 4 (ratQ R w) (rtx w) := .obj ⟨w, rfl, zw9, rfl⟩ (by decide)
  have w3 : Shw (rhoQ R) 1 4 (.int r) (toString r) := .int (it_log zr9)
  have w4 : Shw (rhoQ R) 1 4 (ratQ R (w / (r : Rat))) (rtx (w / (r : Rat))) := .obj ⟨_, rfl, zd9, rfl⟩ (by decide)
  have w5 : Shw (rhoQ R) 1 5 (.lst [.lst (ns.map D.str), ratQ R w, .int r, ratQ R (w / (r : Rat))]) (listText [listText (ns.map reprText), rtx w, toString r, rtx (w / (r : Rat))]) := .lst (.cons w1 (.cons w2 (.cons w3 (.cons w4 .nil))))
  exact ⟨w5, hln⟩
theorem setB_of {kd : List (Key × D)} {ss : List Str} (h0 : ss ≠ []) (h1 : ss.Nodup) (h2 : ∀ s ∈ ss, (.inr s : Key) ∈ kd.map (·.1)) : setB kd ss = true := by
  unfold setB
  have e : ss.isEmpty = false := by
    cases hh : ss with
    | nil => exact (h0 hh).elim
    | cons => rfl
  rw [e, decide_eq_true (nd_nodup h1)]
  simp only [Bool.not_false, Bool.true_and, Bool.and_true, List.all_eq_true]
  exact fun s hs => valD_some.mpr (h2 s hs)
end Dt
namespace Lw
open PySem PySem.Spec PyProof.Rows L2 Ly Dt
local macro_rules | `(tactic| walk_at "wk") => `(tactic| first
  | ((with_reducible refine' w_var ?hv ?hn ?_); (case hv => exact rfl); (case hn => (intro z; cases z)))
  | with_reducible refine w_int ?_
  | with_reducible refine w_str ?_
  | with_reducible refine w_op ?_
  | with_reducible refine wa_cons ?_
  | with_reducible refine wa_nil ?_
  | with_reducible refine w_reprL ?_
  | with_reducible refine w_isi2 ?_
  | with_reducible refine w_cb ?_
  | with_reducible refine w_call ?_
  | ((with_reducible refine' ws_retV ?hv ?_); (case hv => exact rfl))
  | with_reducible refine ws_seq ?_
  | with_reducible refine ws_asg ?_
  | with_reducible refine ws_ret ?_
  | with_reducible refine ws_if ?_
  | with_reducible refine ws_next ?_
  | ((with_reducible refine' ws_append ?hv ?hz ?_); (case hv => exact rfl); rotate_left)
  | with_reducible refine ws_drop ?_
  | with_reducible refine ws_retN ?_
  | ((with_reducible refine wg_d ?_); dsimp only [List.set])
  | ((with_reducible refine wg_raw ?_); dsimp only [List.set])
  | ((with_reducible refine wg_E ?_))
  | ((with_reducible refine' we_tup ?hl ?_); (case hl => exact rfl))
  | with_reducible refine wes_cons ?_
  | with_reducible refine wes_nil ?_
  | ((with_reducible refine we_name ?_); dsimp only [List.set])
  | with_reducible refine out_d ?_
  | with_reducible refine out_new ?_
  | with_reducible refine ex_bl ?_
  | with_reducible refine ite_t ?_
  | ((with_reducible refine ex_fzd ?_); dsimp only [List.set, List.nil_append, List.cons_append])
  | ((with_reducible refine ex_fzn ?_); dsimp only [List.set, List.nil_append, List.cons_append])
  | with_reducible refine ite_nt ?_
  | with_reducible refine ite_nf ?_
  | with_reducible refine ite_f ?_
  | with_reducible refine wt_tb ?_
  | with_reducible refine wt_test ?_
  | with_reducible refine wt_and ?_
  | with_reducible refine wt_or ?_
  | with_reducible refine wt_not ?_
  | with_reducible refine w_andV ?_
  | with_reducible refine w_orV ?_
  | with_reducible refine w_notV ?_
  | with_reducible refine w_if ?_
  | with_reducible refine w_bl ?_
  | with_reducible refine w_non ?_
  | with_reducible refine w_ty ?_
  | with_reducible refine w_ref ?_
  | with_reducible refine w_un ?_
  | ((with_reducible refine w_tup ?_); skip)
  | ((with_reducible refine w_lst ?_); skip)
  | ((with_reducible refine' Exists.intro _ (And.intro ?hf (And.intro ?hl ?_))); (case hf => exact rfl); (case hl => exact Nat.le_of_ble_eq_true rfl))
  | with_reducible refine w_fld ?_
  | ((with_reducible refine' fld_of ?ho ?c ?n ?l ?_); (case ho => exact rfl); (case c => assumption); (case n => with_reducible assumption); (case l => exact rfl))
  | with_reducible refine wp_top ?_
  | with_reducible refine wp_bot ?_
  | with_reducible refine w_prop ?_
  | with_reducible refine w_meth ?_
  | with_reducible refine w_smeth ?_
  | with_reducible refine wop_addI ?_
  | with_reducible refine wop_subI ?_
  | ((with_reducible refine' wop_mulI ?c ?_); rotate_left)
  | ((with_reducible refine' wop_fdI ?c ?_); rotate_left)
  | with_reducible refine wop_mdI (by first | decide | assumption) ?_
  | ((with_reducible refine' wop_mdI ?c ?_); rotate_left)
  | ((with_reducible refine' wop_I0 ?e ?_); (case e => exact rfl))
  | ((with_reducible refine' wop_ixT ?e ?_); (case e => exact rfl))
  | ((with_reducible refine' wcb_lenL ?e ?_); (case e => exact rfl))
  | with_reducible refine wcb_lenT ?_
  | ((with_reducible refine' wop_fdX ?c ?_); rotate_left)
  | ((with_reducible refine' wun_U ?e ?_); (case e => exact rfl))
  | with_reducible refine wop_eqI ?_
  | with_reducible refine wop_neI ?_
  | with_reducible refine wop_eqS ?_
  | with_reducible refine wop_neS ?_
  | with_reducible refine wop_isN ?_
  | with_reducible refine wop_notN ?_
  | ((with_reducible refine' wop_inS ?e ?_); (case e => exact rfl))
  | ((with_reducible refine' wop_niS ?e ?_); (case e => exact rfl))
  | with_reducible refine wop_inST ?_
  | with_reducible refine wcb_gcd ?_
  | with_reducible refine wcb_abs ?_
  | with_reducible refine wcb_max2 ?_
  | with_reducible refine wcb_min2 ?_
  | with_reducible refine wcb_int ?_
  | ((with_reducible refine' wcb_isi (b := true) ?ho ?hb ?_); (case ho => exact rfl); (case hb => (dsimp only [tyN]; decide +kernel)))
  | ((with_reducible refine' wcb_isi (b := false) ?ho ?hb ?_); (case ho => exact rfl); (case hb => (dsimp only [tyN]; decide +kernel)))
  | ((with_reducible refine' wcb_listOf ?e ?_); (case e => exact rfl))
  | with_reducible refine wcb_listOfT ?_
  | ((with_reducible refine' wcb_tupOf ?e ?_); (case e => exact rfl))
  | with_reducible refine w_chain ?_
  | with_reducible refine wcb_strS ?_
  | ((with_reducible refine' wcb_lenD ?e ?_); (case e => exact rfl))
  | ((with_reducible refine' wcb_listD ?e ?_); (case e => exact rfl))
  | with_reducible refine w_dnewK ?_
  | with_reducible refine w_dget ?_
  | with_reducible refine w_din ?_
  | with_reducible refine w_dni ?_
  | with_reducible refine w_lenSet ?_
  | with_reducible refine w_listVals ?_
  | with_reducible refine w_chain ?_
  | ((with_reducible refine' wt_yes ?_)))
variable {W : Wd} {a : Ad}
theorem k_law_part_right (T : Txt W.K W.mg a) : ClG W 10 "_law_part_right" (spW true fun rs k => ∃ (sp : List (Str × Int)) (lo : List Ld) (ps : List Str), rs = [.pot, .d (modD sp lo), .d (yd a.Yard a.Ratio (canon sp lo)), .d (.lst (ps.map D.str))] ∧ MoOk sp lo ∧ ps ≠ [] ∧ ps.Nodup ∧ (∀ p ∈ ps, p ∈ sp.map (·.1)) ∧ k (.d (.bl true))) := by
  refine clg_W T.d_law_part_right sc_law_part_right bd_law_part_right (fun rs k ⟨_, _, _, h, _⟩ => by rw [h]; rfl) (body_G (n := 4) (m := 5) rfl (fun rs k ⟨_, _, _, h, _⟩ => by rw [h]; rfl) fun f cdv A outer s H E hr hgd => ⟨_, (pss_cons (ps_par (i := 8) (j := 4) (by rfl) sc_law_part_right.nd rfl rfl (by decide) rfl rfl (pa_cons (pe_clG (k_law_due T) hr hgd (by decide) rfl (pa_cons (pv 1) (pa_cons (pv 3) pa_nil))) (pa_cons (pe_cl (kd_law_mixed T) hr (by decide) rfl (pa_cons (pv 0) (pa_cons (pv 3) pa_nil))) pa_nil)) (by rfl)) (pss_cons (ps_set (i := 4) sc_law_part_right.nd rfl (Or.inl rfl) (pe_cl (k_law_pick T) hr (by decide) rfl (pa_cons (pv 0) (pa_cons (pe_lst (pa_cons (pv 4) (pa_cons (pe_callTy (r := rTupOf W.K) call_tupleU (by rfl) T.b_tuple (by decide +kernel) (pa_cons (pv 4) pa_nil)) pa_nil))) pa_nil)))) (pss_cons (ps_set (i := 5) sc_law_part_right.nd rfl (Or.inl rfl) (pe_callB (r := rShow (rhoQ a.Ratio) 1 5) (call_show (hr.mono (by decide)) hgd (rho_of (mt_rrepr T))) (by rfl) T.b_repr (by decide +kernel) (pa_cons (pv 4) pa_nil))) (pss_cons (ps_set (i := 6) sc_law_part_right.nd rfl (Or.inl rfl) (pe_mt T.o_Yard.cls (my_confined T) hr (by decide) (pv 2) (pa_cons (pv 4) pa_nil))) (pss_cons (ps_if (pt_cmpR (r := rNeU W.K) (op_neU hr.units) (pe_callB (r := rShow (rhoQ a.Ratio) 1 5) (call_show (hr.mono (by decide)) hgd (rho_of (mt_rrepr T))) (by rfl) T.b_repr (by decide +kernel) (pa_cons (pe_lst (pa_cons (pv 6) (pa_cons (pe_mt T.o_Yard.cls (my_weight T) hr (by decide) (pv 2) (pa_cons (pv 4) pa_nil)) (pa_cons (pe_mt T.o_Yard.cls (my_speed_of T) hr (by decide) (pv 2) (pa_cons (pv 4) pa_nil)) (pa_cons (pe_mt T.o_Yard.cls (my_density T) hr (by decide) (pv 2) (pa_cons (pv 4) pa_nil)) pa_nil))))) pa_nil)) (pv 8) (nomark _)) (pss_one (ps_ret pe_bl)) pss_nil) (pss_cons (ps_expr (pe_bmK (K := W.K) rfl PySem.F.plainAttrs_list PySem.F.slot_list_append PySem.F.type_list_append mt_append (pv 6) (pa_cons pe_str pa_nil))) (pss_cons (ps_set (i := 7) sc_law_part_right.nd rfl (Or.inl rfl) (pe_lst (pa_cons (pe_mtk T.o_Yard.cls (myk_confined T) hr (by decide) (pv 2) (pk_cons (pv 4) pk_nil)) (pa_cons (pe_mtk T.o_Yard.cls (myk_weight T) hr (by decide) (pv 2) (pk_cons (pv 4) pk_nil)) pa_nil)))) (pss_cons (ps_set (i := 7) sc_law_part_right.nd rfl (Or.inl rfl) (pe_op op_addU (pv 7) (pe_lst (pa_cons (pe_mtk T.o_Yard.cls (myk_speed_of T) hr (by decide) (pv 2) (pk_cons (pv 4) pk_nil)) (pa_cons (pe_mtk T.o_Yard.cls (myk_density T) hr (by decide) (pv 2) (pk_cons (pv 4) pk_nil)) pa_nil))))) (pss_one (ps_ret (pe_and (pe_cmpR (r := rEqU W.K) (op_eqU hr.units) (pe_callB (r := rShow (rhoQ a.Ratio) 1 5) (call_show (hr.mono (by decide)) hgd (rho_of (mt_rrepr T))) (by rfl) T.b_repr (by decide +kernel) (pa_cons (pv 7) pa_nil)) (pv 8) (nomark _)) (pe_one (pe_cmpR (r := rEqU W.K) (op_eqU hr.units) (pe_callB (r := rShow (rhoQ a.Ratio) 1 5) (call_show (hr.mono (by decide)) hgd (rho_of (mt_rrepr T))) (by rfl) T.b_repr (by decide +kernel) (pa_cons (pv 4) pa_nil)) (pv 5) (nomark _)))))))))))))), fun π rs kr hp hB => ?_⟩)
  obtain ⟨sp, lo, ps, rfl, ok, hn, hnd, hs, q⟩ := hB
  dsimp only [uns, List.replicate, List.cons_append, List.nil_append]
  repeat walk_at "wk"
  have hl12 : ps.length ≤ 12 := by
    have z := nodup_sub hnd hs
    have := ok.so.lt
    rw [List.length_map] at z
    omega
  refine ws_parF ?_
  repeat walk_at "wk"
  refine wcb_W0 (rs := [.d (modD sp lo), .d (.lst (ps.map D.str))]) rfl rfl ⟨sp, lo, ps, rfl, ok, hn, hl12, hs, fun z => (by cases z), ?_⟩
  repeat walk_at "wk"
  refine wcb_mixed hp rfl (by rw [List.length_map]; omega) fun es pe => ?_
  obtain ⟨ss, rfl, pz⟩ := perm_strs pe
  repeat walk_at "wk"
  refine ⟨_, _, _, _, rfl, rfl, rfl, ?_⟩
  dsimp only [List.set]
  repeat walk_at "wk"
  have lss : ss.length = ps.length := pz.length_eq
  have hssn : ss ≠ [] := fun z => hn (by
    rw [z] at pz
    exact List.nil_perm.mp pz)
  refine wcb_pick hp rfl (by simp) (by simp) fun x hx => ?_
  have hx2 : SetOf x ss ∧ isSeqD x = true ∧ ∃ tx0, Shw (rhoQ a.Ratio) 1 5 x tx0 ∧ tx0.length ≤ sizeLine := by
    have hnm : ∀ s ∈ ss, nmB s = true := fun s hm => by
      obtain ⟨p, hp', rfl⟩ := List.mem_map.mp (hs s (pz.mem_iff.mp hm))
      exact ok.so.nm p hp'
    have hsh : Shws (rhoQ a.Ratio) 1 4 (ss.map D.str) (ss.map reprText) := shws_strs fun s hm => sl_of (Nat.le_trans (nmB_rp (hnm s hm)) (by decide))
    simp only [List.mem_cons, List.not_mem_nil, or_false] at hx
    rcases hx with rfl | rfl
    · exact ⟨.lst ss, rfl, _, .lst hsh, sl_of (Nat.le_trans (names_len hnm (by omega)) (by decide))⟩
    · refine ⟨.tup ss, rfl, _, .tup hsh, ?_⟩
      have z := tupleText_len_le (ss.map reprText)
      have z2 := sum_le_mul (m := 82) (xs := (ss.map reprText).map (·.length)) fun x hx => by
        obtain ⟨t, ht, rfl⟩ := List.mem_map.mp hx
        obtain ⟨s, hs2, rfl⟩ := List.mem_map.mp ht
        exact nmB_rp (hnm s hs2)
      rw [List.length_map, List.length_map] at z2
      rw [List.length_map] at z
      have : ss.length * 82 ≤ 12 * 82 := Nat.mul_le_mul_right _ (by omega)
      exact sl_of (by omega)
  obtain ⟨hset, hseq, tx0, hw0, hz0⟩ := hx2
  clear hx
  have hsb : setB (spD (canon sp lo).sp) ss = true := by
    refine setB_of hssn (pz.nodup_iff.mpr hnd) fun s hm => ?_
    rw [spD_keys, canon_sp]
    exact List.mem_map.mpr ⟨s, sortN_mem.mpr (hs s (pz.mem_iff.mp hm)), rfl⟩
  repeat walk_at "wk"
  refine wcb_repr rfl hseq hw0 hz0 ?_
  repeat walk_at "wk"
  refine ⟨⟨_, rfl, rfl⟩, ?_⟩
  repeat walk_at "wk"
  refine wcb_ys rfl (canon_ok ok) hset (by omega) hsb (by intro z; cases z) ?_
  refine wg_new fun p6 => ?_
  dsimp only [List.set]
  repeat walk_at "wk"
  refine ⟨⟨_, rfl, rfl⟩, ?_⟩
  repeat walk_at "wk"
  refine wcb_ys rfl (canon_ok ok) hset (by omega) hsb (by intro z; cases z) ?_
  repeat walk_at "wk"
  refine ⟨⟨_, rfl, rfl⟩, ?_⟩
  repeat walk_at "wk"
  refine wcb_ys rfl (canon_ok ok) hset (by omega) hsb (by intro z; cases z) ?_
  repeat walk_at "wk"
  refine ⟨⟨_, rfl, rfl⟩, ?_⟩
  repeat walk_at "wk"
  refine wcb_ys rfl (canon_ok ok) hset (by omega) hsb (by intro z; cases z) ?_
  repeat walk_at "wk"
  obtain ⟨w5, hln⟩ := due_shw (R := a.Ratio) ok hn hl12 hs
  have e1 : ((conf (canon sp lo) ss).map fun t => D.str t.1) = (sortN ((lconf lo ps).map (·.1))).map D.str := by
    rw [← conf_canon ok pz, List.map_map]
    rfl
  have hcl : (conf (canon sp lo) ss).length ≤ 24 := Nat.le_trans (List.length_filter_le _ _) (canon_ok ok).tkl
  have e2 := conf_sum ok pz
  have e3 := spS_canon ok pz hs
  generalize dueT (sortN ((lconf lo ps).map (·.1))) ((lconf lo ps).map fun t => t.2.1).sum (ps.map (spV sp)).sum = tx at w5 hln ⊢
  rw [← e1, ← e2, ← e3] at w5
  refine ⟨_, tx, rfl, show 4 ≤ 4000 by decide, w5, sl_of hln, ?_⟩
  repeat walk_at "wk"
  refine ite_dn (fun h => (h rfl).elim) fun _ => ?_
  repeat walk_at "wk"
  · refine w_methK ?_
    repeat walk_at "wk"
    refine ⟨⟨_, rfl, rfl⟩, ?_⟩
    repeat walk_at "wk"
    refine ⟨rfl, wcb_ys rfl (canon_ok ok) hset (by omega) hsb (by intro z; cases z) ?_⟩
    repeat walk_at "wk"
    refine w_methK ?_
    repeat walk_at "wk"
    refine ⟨⟨_, rfl, rfl⟩, ?_⟩
    repeat walk_at "wk"
    refine ⟨rfl, wcb_ys rfl (canon_ok ok) hset (by omega) hsb (by intro z; cases z) ?_⟩
    repeat walk_at "wk"
    refine wg_new fun p7 => ?_
    dsimp only [List.set]
    repeat walk_at "wk"
    refine w_methK ?_
    repeat walk_at "wk"
    refine ⟨⟨_, rfl, rfl⟩, ?_⟩
    repeat walk_at "wk"
    refine ⟨rfl, wcb_ys rfl (canon_ok ok) hset (by omega) hsb (by intro z; cases z) ?_⟩
    repeat walk_at "wk"
    refine w_methK ?_
    repeat walk_at "wk"
    refine ⟨⟨_, rfl, rfl⟩, ?_⟩
    repeat walk_at "wk"
    refine ⟨rfl, wcb_ys rfl (canon_ok ok) hset (by omega) hsb (by intro z; cases z) ?_⟩
    repeat walk_at "wk"
    refine wop_cat rfl rfl (show 2 + 2 ≤ 4000 by decide) ?_
    refine wg_new fun p8 => ?_
    dsimp only [List.set]
    refine ws_frz (n := 7) rfl ?_
    dsimp only [List.set]
    repeat walk_at "wk"
    refine wcb_repr rfl rfl w5 (sl_of hln) ?_
    repeat walk_at "wk"
    refine ite_d (fun _ => ?_) fun h => (h rfl).elim
    repeat walk_at "wk"
    refine wcb_repr rfl hseq hw0 hz0 ?_
    repeat walk_at "wk"
    rw [decide_eq_true rfl]
    exact q
  · rw [List.length_map]
    omega
end Lw
namespace Ly
open PySem PySem.Spec PyProof.Rows L2
/-- == of dicts, the left one locked or not, perhaps the very same -/
def rCmpD (g : Bool → Bool) (rv : R2) : R2 := fun x y H Q => ∃ a b ka kb, x = .ref a ∧ y = .ref b ∧ Rd H b (.dK kb) ∧
  ((H a = some (.dK ka) ∧ ((ka.length = kb.length ∧ ∀ od, eqEach rv a b (.frz od (.dK ka)) kb ka (fun r H' => Q (.bl (g r)) (upd H' a (.dK ka))) (upd H a (.frz od (.dK ka)))) ∨ (ka.length ≠ kb.length ∧ Q (.bl (g false)) H))) ∨
   ∃ od, H a = some (.frz od (.dK ka)) ∧ ((ka.length = kb.length ∧ eqEach rv a b (.frz od (.dK ka)) kb ka (fun r H' => Q (.bl (g r)) H') H) ∨ (ka.length ≠ kb.length ∧ Q (.bl (g false)) H)))
theorem rd_upd {H : Hp} {a b : Addr} {ka kb : List (Key × V)} {od : Obj} (ea : H a = some (.dK ka)) (h : Rd H b (.dK kb)) : Rd (upd H a (.frz od (.dK ka))) b (.dK kb) := by
  by_cases e : b = a
  · subst e
    rcases h with h | ⟨u, h⟩
    · rw [ea] at h; cases h; exact .inr ⟨od, upd_same⟩
    · rw [ea] at h; cases h
  · rcases h with h | ⟨u, h⟩
    · exact .inl (by rw [upd_ne e]; exact h)
    · exact .inr ⟨u, by rw [upd_ne e]; exact h⟩
theorem op_eqD2 {X : Cx} {rv : R2} (hu : X.A.units < cLine) (hv : EqAtR X X.A.in1 rv) : OpR X (compareOp .Eq) (rCmpD id rv) := by
  intro pins s σ H x y v u Q I rx ry h
  obtain ⟨a, b, ka, kb, rfl, rfl, rb, q⟩ := h
  obtain rfl : v = Value.ref a := rx
  obtain rfl : u = Value.ref b := ry
  obtain ⟨_, _, vb, _, db⟩ := dk_rd I.hok rb
  have ra : Rd H a (.dK ka) := q.elim (fun q => .inl q.1) fun ⟨od, q, _⟩ => .inr ⟨od, q⟩
  obtain ⟨_, _, va, _, da⟩ := dk_rd I.hok ra
  refine wpAny_richCompare_same_room (op := .Eq) da.typeIs db.typeIs PySem.F.slot_dict_eq (wpAny_call_entry PySem.F.slot_dict_eq da.typeIs PySem.F.entry_dict_eq ?_ (PySem.F.args_dict_eq_2 _ _)) hu
  show wpAny _ _ (Builtin.Dict.dictSlotArgs "__eq__" ⟨[.ref a, .ref b], []⟩ >>= _) _ _ s
  refine wpAny_bind ?_
  unfold Builtin.Dict.dictSlotArgs
  refine wpAny_bind (wpAny_notOrdered_dict da.typeIs ?_)
  show wpAny _ _ (pure (Value.ref a, Value.ref b)) _ _ s
  refine wpAny_pure ?_
  refine wpAny_bind (wpAny_isInstance (T := "dict") db.typeIs PySem.F.sub_dict_dict ?_)
  simp only [Bool.not_true, Bool.false_eq_true, if_false]
  refine wpAny_bind (wpAny_pure (wpAny_bind (wpAny_pure ?_)))
  rcases q with ⟨ea, q⟩ | ⟨od, ea, q⟩
  · have mu : Mut (some (HO.dK ka)) := trivial
    obtain ⟨od, I1⟩ := I.lock ea mu
    refine wpAny_bind (wpAny_mono (samePairsI I1 (upd_same ..) (rd_upd ea rb) hv (q.imp (fun z => ⟨z.1, z.2 od⟩) fun z => ⟨z.1, by rw [upd_upd, upd_back ea]; exact z.2⟩)) (fun r s' hq => ?_) fun _ _ e => e)
    obtain ⟨H', I2, e2, qq⟩ := hq
    refine wpAny_pure ⟨_, rfl, (fun x => nomatch x), ?_⟩
    exact ⟨.bl r, _, I2.unlock e2 (I.nofrz ea mu), (show L2.RelV (.bl r) (.bool (r == true)) from by cases r <;> rfl), qq⟩
  · refine wpAny_bind (wpAny_mono (samePairsI I ea rb hv (Q := fun r H' => Q (.bl r) H') q) (fun r s' hq => ?_) fun _ _ e => e)
    obtain ⟨H', I2, e2, qq⟩ := hq
    refine wpAny_pure ⟨_, rfl, (fun x => nomatch x), ?_⟩
    exact ⟨.bl r, _, I2, (show L2.RelV (.bl r) (.bool (r == true)) from by cases r <;> rfl), qq⟩
/-- values: plain data, or objects of one own class with an own == -/
def rEqVal (K : PySem.W.Frag) (C : Addr) (sp : Sp) : R2 := rEqOr (rEqD K) (rEqOr rEqSame (rEqObj C sp))
theorem eqAt_val {X : Cx} {k j : Nat} {C : Addr} {sp : Sp} (h : Mt ⟨X.prog, X.w, X.K, X.mg, X.base⟩ k C "__eq__" sp) (hr : Room j X.A) (hk : k + 1 ≤ j) : EqAtR X X.A.in1 (rEqVal X.K C sp) := by
  obtain ⟨f, fd, ps, hm, F, b⟩ := h.ex
  have hr1 : Room (k + 1) X.A := hr.mono hk
  exact eqAt_or (eqAt_data (by have := hr.units; have := hr1.in1.units; have := hr1.in1.un; omega)) (eqAt_or eqAt_refl (eqAt_obj F hr1.in1 rfl b hm.at_ hm.fn))
theorem op_eqV {X : Cx} {k j : Nat} {C : Addr} {sp : Sp} (h : Mt ⟨X.prog, X.w, X.K, X.mg, X.base⟩ k C "__eq__" sp) (hr : Room j X.A) (hk : k + 1 ≤ j) : OpR X (compareOp .Eq) (rCmpD id (rEqVal X.K C sp)) := op_eqD2 (by have := hr.un; omega) (eqAt_val h hr hk)
theorem op_eqO {X : Cx} {k j : Nat} {C : Addr} {x : Str} {sp : Sp} (h : Mt ⟨X.prog, X.w, X.K, X.mg, X.base⟩ k C "__eq__" sp) (o : OwnC X.K X.mg x C) (hr : Room j X.A) (hk : k ≤ j) : OpR X (compareOp .Eq) (rEqOwn C sp) := by
  obtain ⟨f, fd, ps, hm, F, b⟩ := h.ex
  exact op_eq_own F (hr.mono hk) b hm.at_ hm.fn o.nI
end Ly
namespace Dt
open PySem PySem.Spec PyProof.Rows L2 Ly
mutual
inductive Pl : D → PyData → Prop
  | int {i : Int} : Pl (.int i) (.int i)
  | bl {b : Bool} : Pl (.bl b) (.bool b)
  | non : Pl .non .none
  | str {s : Str} : Pl (.str s) (.str s)
  | lst {xs : List D} {ps : List PyData} (h : Pls xs ps) : Pl (.lst xs) (.list ps)
  | tup {xs : List D} {ps : List PyData} (h : Pls xs ps) : Pl (.tup xs) (.tuple ps)
inductive Pls : List D → List PyData → Prop
  | nil : Pls [] []
  | cons {x : D} {p : PyData} {xs : List D} {ps : List PyData} (h : Pl x p) (t : Pls xs ps) : Pls (x :: xs) (p :: ps)
end
mutual
theorem at_dp {K : PySem.W.Frag} {H : Hp} : ∀ {v : V} {d : D} {p : PyData}, At H v d → Pl d p → Dp K H v p
  | _, _, _, a, .int => by cases a; exact .int _
  | _, _, _, a, .bl => by cases a; exact .bl _
  | _, _, _, a, .non => by cases a; exact .non
  | _, _, _, a, .str => by cases a; exact .str _
  | _, _, _, a, .lst h => by cases a with | lst e t => exact .lst (SqL.of e) (ats_dp t h)
  | _, _, _, a, .tup h => by cases a with | tup e t => exact .tup (SqT.of e) (ats_dp t h)
theorem ats_dp {K : PySem.W.Frag} {H : Hp} : ∀ {vs : List V} {ds : List D} {ps : List PyData}, Ats H vs ds → Pls ds ps → DpAll K H vs ps
  | _, _, _, a, .nil => by cases a; exact .nil
  | _, _, _, a, .cons h t => by cases a with | cons a1 t1 => exact .cons (at_dp a1 h) (ats_dp t1 t)
end
theorem pls_strs : ∀ ss : List Str, Pls (ss.map D.str) (ss.map PyData.str)
  | [] => .nil
  | s :: ss => .cons .str (pls_strs ss)
section
variable {π : Po} {k : Rv → Prop} {K : PySem.W.Frag}
theorem wop_neP {a b : Rv} {x y : D} {p q : PyData} (ha : a.an = some x) (hb : b.an = some y) (hp : Pl x p) (hq : Pl y q) (sp : SeqAt.shaped p = true) (sq : SeqAt.shaped q = true) (kk : k (.d (.bl (!PyData.eqv p q)))) : WOp π (rNeU K) a b k := fun X H0 H v w Q o0 o k0 ra rb h =>
  .inr ⟨p, q, at_dp (ra.an ha) hp, at_dp (rb.an hb) hq, sp, sq, h _ (.d (.bl _)) H o.kp (At.bl _) kk⟩
end
section
variable {π : Po} {k : Rv → Prop} {C : Addr} {B : List Rv → (Rv → Prop) → Prop} {a b : Rv} {fs gs : List (Str × D)}
theorem wop_eqO (hf : fzA [a, b] = some [.d (.obj C fs), .d (.obj C gs)]) {c : Bool} (hB : B [.d (.obj C fs), .d (.obj C gs)] fun r => r = .d (.bl c)) (q : k (.d (.bl c))) : WOp π (rEqOwn C (spW false B)) a b k := fun X H0 H x y Q o0 o k0 ra rb h => by
  have aa := RAts.fzA (as := [a, b]) (vs := [x, y]) o0 ⟨ra, rb, trivial⟩ hf
  obtain ⟨a1, a2, _⟩ := aa
  have a1' := a1
  have a2' := a2
  cases a1 with
  | obj e e2 t =>
    cases a2 with
    | obj e' e2' t' =>
      refine ⟨_, _, _, rfl, (of_cut e).2, .inl ⟨_, _, _, rfl, (of_cut e').2⟩, ?_⟩
      refine wcb_W0 (k := fun r => r = .d (.bl c)) (as := [.d (.obj C fs), .d (.obj C gs)]) rfl rfl ?_ X H0 H _ Q o0 o k0 ⟨a1', a2', trivial⟩ fun v z H' k1 az kz => ?_
      · have : (fun r => r ≠ Rv.pot ∧ r = .d (.bl c)) = fun r => r = .d (.bl c) := by
          funext r
          exact propext ⟨fun z => z.2, fun z => ⟨(by rw [z]; exact fun z => (by cases z)), z⟩⟩
        rw [this]
        exact hB
      · subst kz
        exact h v _ H' k1 az q
end
/-- what == says of two values -/
inductive EqV (C : Addr) (B : List Rv → (Rv → Prop) → Prop) : D → D → Bool → Prop
  | pl {x y : D} {p q : PyData} (hp : Pl x p) (hq : Pl y q) (sp : SeqAt.shaped p = true) (sq : SeqAt.shaped q = true) : EqV C B x y (PyData.eqv p q)
  | obj {fs gs : List (Str × D)} {c : Bool} (h : B [.d (.obj C fs), .d (.obj C gs)] fun r => r = .d (.bl c)) (e : fs = gs → c = true) : EqV C B (.obj C fs) (.obj C gs) c
inductive EqEach (E : D → D → Bool → Prop) (kb : List (Key × D)) : List (Key × D) → Bool → Prop
  | nil : EqEach E kb [] true
  | no {k : Key} {d : D} {r : List (Key × D)} (h : valD kb k = none) : EqEach E kb ((k, d) :: r) false
  | ff {k : Key} {d e : D} {r : List (Key × D)} (h : valD kb k = some e) (g : E d e false) : EqEach E kb ((k, d) :: r) false
  | tt {k : Key} {d e : D} {r : List (Key × D)} {b : Bool} (h : valD kb k = some e) (g : E d e true) (t : EqEach E kb r b) : EqEach E kb ((k, d) :: r) b
def EqDct (E : D → D → Bool → Prop) (ka kb : List (Key × D)) (b : Bool) : Prop := (ka.length = kb.length ∧ EqEach E kb ka b) ∨ (ka.length ≠ kb.length ∧ b = false)
section
variable {K : PySem.W.Frag} {C : Addr} {B : List Rv → (Rv → Prop) → Prop} {X : Xs}
theorem eqV_at {H : Hp} {v w : V} {d e : D} {c : Bool} {Q : VK} (E : EqV C B d e c) (o : Ok none X H) (av : At (cut X H) v d) (aw : At (cut X H) w e) (q : ∀ H', Same H H' → Q (.bl c) H') : rEqVal K C (spW false B) v w H Q := by
  cases E with
  | pl hp hq sp sq => exact .inl ⟨_, _, at_dp (av.mono cut_sm) hp, at_dp (aw.mono cut_sm) hq, sp, sq, q H fun _ _ e => e⟩
  | @obj fs gs c h e =>
    have av' := av
    have aw' := aw
    cases av with
    | @obj p _ dx fs' _ e1 e2 t =>
      cases aw with
      | @obj p' _ dx' gs' _ e1' e2' t' =>
        by_cases hp : p = p'
        · subst hp
          have z := av'.det aw'
          injection z with _ z
          rw [e z] at q
          exact .inr (.inl ⟨_, rfl, rfl, q H fun _ _ e => e⟩)
        · refine .inr (.inr ⟨p, p', dx, fs', dx', gs', rfl, rfl, hp, (of_cut e1).2, (of_cut e1').2, none, X, [.d (.obj C fs), .d (.obj C gs)], _, rfl, o, rfl, ⟨av', aw', trivial⟩, h, fun v r H' k1 _ ra kr => ?_⟩)
          subst kr
          cases ra
          exact ⟨c, rfl, q H' k1.same⟩
theorem eqEach_at {a b : Addr} {fa : HO} {kb : List (Key × V)} {kd : List (Key × D)} : ∀ {l : List (Key × V)} {ld : List (Key × D)} {c : Bool} {H : Hp} {Q : Bool → Hp → Prop}, EqEach (EqV C B) kd ld c → Ok none X H → l.map (·.1) = ld.map (·.1) → Ats (cut X H) (l.map (·.2)) (ld.map (·.2)) →
    kb.map (·.1) = kd.map (·.1) → Ats (cut X H) (kb.map (·.2)) (kd.map (·.2)) → H a = some fa → Rd H b (.dK kb) → (∀ H', Same H H' → Q c H') → eqEach (rEqVal K C (spW false B)) a b fa kb l Q H
  | [], _, _, H, Q, E, o, hl, tl, hb, tb, ha, rb, q => by
    cases E with
    | nil => exact q H fun _ _ e => e
    | _ => cases hl
  | (k, v) :: l, [], _, H, Q, E, o, hl, tl, hb, tb, ha, rb, q => by cases hl
  | (k, v) :: l, (k', d) :: ld, c, H, Q, E, o, hl, tl, hb, tb, ha, rb, q => by
    simp only [List.map_cons, List.cons.injEq] at hl
    obtain ⟨hk, hl⟩ := hl
    have hk : k = k' := hk
    subst hk
    cases tl with
    | cons av tl =>
    cases E with
    | no h => exact .inl ⟨(val_at hb tb).2 h, q H fun _ _ e => e⟩
    | ff h g =>
      obtain ⟨w, hw, aw⟩ := (val_at hb tb).1 _ h
      exact .inr ⟨w, hw, eqV_at g o av aw fun H' s => ⟨false, rfl, s _ _ ha, rb.elim (fun z => .inl (s _ _ z)) fun ⟨u, z⟩ => .inr ⟨u, s _ _ z⟩, .inr ⟨rfl, q H' s⟩⟩⟩
    | tt h g t =>
      obtain ⟨w, hw, aw⟩ := (val_at hb tb).1 _ h
      refine .inr ⟨w, hw, eqV_at g o av aw fun H' s => ?_⟩
      have rb' : Rd H' b (.dK kb) := rb.elim (fun z => .inl (s _ _ z)) fun ⟨u, z⟩ => .inr ⟨u, s _ _ z⟩
      have k1 : Kp none H H' := Kp.of_same o s
      have m := o.mo k1
      exact ⟨true, rfl, s _ _ ha, rb', .inl ⟨rfl, eqEach_at t (o.keep k1) hl (tl.mono m) hb (tb.mono m) (s _ _ ha) rb' fun H2 s2 => q H2 fun a u e => s2 a u (s a u e)⟩⟩
end
section
variable {π : Po} {k : Rv → Prop} {K : PySem.W.Frag} {C : Addr} {B : List Rv → (Rv → Prop) → Prop} {a b : Rv} {ka kb : List (Key × D)} {g : Bool → Bool}
theorem wop_cmpD {c : Bool} (ha : a = .d (.dct ka)) (hb : b = .d (.dct kb)) (E : EqDct (EqV C B) ka kb c) (q : k (.d (.bl (g c)))) : WOp π (rCmpD g (rEqVal K C (spW false B))) a b k := fun X H0 H x y Q o0 o k0 ra rb h => by
  subst ha
  subst hb
  cases ra with
  | @dct p kv _ hr e1 t1 =>
    cases rb with
    | @dct p' kv' _ hr' e1' t1' =>
      have l1 : kv.length = ka.length := by simpa using congrArg List.length e1
      have l2 : kv'.length = kb.length := by simpa using congrArg List.length e1'
      refine ⟨p, p', kv, kv', rfl, rfl, rd_cut hr', ?_⟩
      rcases E with ⟨hl, E⟩ | ⟨hl, rfl⟩
      · rcases hr with hr | ⟨od, hr⟩
        · obtain ⟨nX, hp⟩ := of_cut hr
          refine .inl ⟨hp, .inl ⟨by omega, fun od => ?_⟩⟩
          have m := cut_lock (X := X) (od := od) nX hp
          have hx : ∀ q, X q → L2.upd H p (.frz od (.dK kv)) q = H q := fun q x => upd_ne fun z => nX (by rw [← z]; exact x)
          have o2 := o.like hx
          refine eqEach_at E o2.none e1 (t1.mono m) e1' (t1'.mono m) upd_same (rd_upd hp (rd_cut hr')) fun H' s => ?_
          obtain ⟨h1, h2, h3⟩ := unlocked (r := .d (.bl (g c))) (v := .bl (g c)) o hp nX (Kp.of_same o2 s) (At.bl _)
          exact h _ (.d (.bl (g c))) _ h2 (At.bl _) q
        · obtain ⟨nX, hp⟩ := of_cut hr
          exact .inr ⟨od, hp, .inl ⟨by omega, eqEach_at E o.none e1 t1 e1' t1' hp (rd_cut hr') fun H' s => h _ (.d (.bl (g c))) H' (Kp.of_same o s) (At.bl _) q⟩⟩
      · rcases rd_cut hr with hr | ⟨od, hr⟩
        · exact .inl ⟨hr, .inr ⟨by omega, h _ (.d (.bl (g false))) H o.kp (At.bl _) q⟩⟩
        · exact .inr ⟨od, hr, .inr ⟨by omega, h _ (.d (.bl (g false))) H o.kp (At.bl _) q⟩⟩
theorem wop_eqDD {c : Bool} (ha : a = .d (.dct ka)) (hb : b = .d (.dct kb)) (E : EqDct (EqV C B) ka kb c) (q : k (.d (.bl c))) : WOp π (rCmpD id (rEqVal K C (spW false B))) a b k := wop_cmpD ha hb E q
end
end Dt
namespace Dt
open PySem PySem.Spec PyProof.Rows L2 Ly
theorem strOk_nm {x : Str} (h : nmB x = true) : PyData.strOk x = true := by
  unfold nmB at h
  rw [Bool.and_eq_true, Bool.and_eq_true, List.all_eq_true] at h
  unfold PyData.strOk
  rw [Array.all_eq_true']
  intro c hc
  have := h.2.2 c (Array.mem_toList_iff.mpr hc)
  unfold lowB at this
  rw [Bool.and_eq_true, decide_eq_true_eq, decide_eq_true_eq] at this
  rw [decide_eq_true_eq]
  omega
theorem canLay_strs : ∀ {ss : List Str}, (∀ s ∈ ss, PyData.strOk s = true) → PyData.canLayAll0 (ss.map PyData.str) = true
  | [], _ => by simp [PyData.canLayAll0]
  | s :: ss, h => by
    have z := canLay_strs (ss := ss) fun t ht => h t (List.mem_cons_of_mem _ ht)
    simp only [List.map_cons, PyData.canLayAll0, Bool.and_eq_true]
    exact ⟨by simpa [PyData.canLay0] using h s List.mem_cons_self, z⟩
theorem depth_strs : ∀ ss : List Str, PyData.depthAll (ss.map PyData.str) = 0
  | [] => by simp [PyData.depthAll]
  | s :: ss => by
    simp only [List.map_cons, PyData.depthAll, depth_strs ss]
    simp [PyData.depth]
theorem shaped_strs {ss : List Str} (h : ∀ s ∈ ss, PyData.strOk s = true) : SeqAt.shaped (.tuple (ss.map PyData.str)) = true ∧ SeqAt.shaped (.list (ss.map PyData.str)) = true := by
  have z := canLay_strs h
  have z2 := depth_strs ss
  refine ⟨?_, ?_⟩
  · unfold SeqAt.shaped
    rw [Bool.and_eq_true, decide_eq_true_eq]
    refine ⟨by simpa [PyData.canLay0] using z, ?_⟩
    simp only [PyData.depth, z2]
    omega
  · unfold SeqAt.shaped
    rw [Bool.and_eq_true, decide_eq_true_eq]
    refine ⟨by simpa [PyData.canLay0] using z, ?_⟩
    simp only [PyData.depth, z2]
    omega
theorem eqvAll_strs : ∀ ss ts : List Str, PyData.eqvAll (ss.map PyData.str) (ts.map PyData.str) = decide (ss = ts)
  | [], [] => by simp [PyData.eqvAll]
  | [], _ :: _ => by simp [PyData.eqvAll]
  | _ :: _, [] => by simp [PyData.eqvAll]
  | s :: ss, t :: ts => by
    have e : (s == t) = decide (s = t) := by
      by_cases h : s = t
      · subst h; simp
      · simp [h]
    simp only [List.map_cons, PyData.eqvAll, PyData.eqv, eqvAll_strs ss ts, e]
    rw [Bool.eq_iff_iff, Bool.and_eq_true, decide_eq_true_eq, decide_eq_true_eq, decide_eq_true_eq, List.cons.injEq]
/-- the value of a name in a list of pairs -/
def at? {α : Type} (l : List (Str × α)) (s : Str) : Option α := (l.find? fun p => decide (p.1 = s)).map (·.2)
theorem valD_at? {α : Type} {f : α → D} : ∀ {l : List (Str × α)} {s : Str}, valD (l.map fun p => ((.inr p.1 : Key), f p.2)) (.inr s) = (at? l s).map f
  | [], _ => rfl
  | p :: l, s => by
    by_cases h : p.1 = s
    · have e1 : at? (p :: l) s = some p.2 := by simp [at?, List.find?_cons, h]
      rw [e1, List.map_cons, h]
      exact valD_hit
    · have e1 : at? (p :: l) s = at? l s := by simp [at?, List.find?_cons, h]
      rw [e1, List.map_cons, valD_skip (fun z => h (Sum.inr.inj z))]
      exact valD_at?
theorem at?_mem {α : Type} : ∀ {l : List (Str × α)} {s : Str} {x : α}, at? l s = some x → (s, x) ∈ l
  | [], _, _, h => by cases h
  | p :: l, s, x, h => by
    by_cases hp : p.1 = s
    · have e1 : at? (p :: l) s = some p.2 := by simp [at?, List.find?_cons, hp]
      rw [e1] at h
      cases h
      rw [← hp]
      exact List.mem_cons_self
    · have e1 : at? (p :: l) s = at? l s := by simp [at?, List.find?_cons, hp]
      rw [e1] at h
      exact List.mem_cons_of_mem _ (at?_mem h)
theorem mem_at? {α : Type} : ∀ {l : List (Str × α)} {s : Str} {x : α}, (l.map (·.1)).Nodup → (s, x) ∈ l → at? l s = some x
  | [], _, _, _, h => nomatch h
  | p :: l, s, x, hn, h => by
    rw [List.map_cons, List.nodup_cons] at hn
    rcases List.mem_cons.mp h with h | h
    · subst h
      simp [at?, List.find?_cons]
    · have hp : p.1 ≠ s := fun z => hn.1 (by rw [z]; exact List.mem_map.mpr ⟨_, h, rfl⟩)
      have e1 : at? (p :: l) s = at? l s := by simp [at?, List.find?_cons, hp]
      rw [e1]
      exact mem_at? hn.2 h
/-- the same pairs -/
def eqP {α : Type} [DecidableEq α] (l m : List (Str × α)) : Bool := decide (l.length = m.length) && l.all fun p => decide (at? m p.1 = some p.2)
theorem eqEach_of {α : Type} [DecidableEq α] {E : D → D → Bool → Prop} {f : α → D} {m : List (Str × α)} : ∀ {l : List (Str × α)}, (∀ p ∈ l, ∀ q ∈ m, E (f p.2) (f q.2) (decide (p.2 = q.2))) → EqEach E (m.map fun p => ((.inr p.1 : Key), f p.2)) (l.map fun p => ((.inr p.1 : Key), f p.2)) (l.all fun p => decide (at? m p.1 = some p.2))
  | [], _ => .nil
  | p :: l, h => by
    rw [List.map_cons, List.all_cons]
    cases hm : at? m p.1 with
    | none =>
      rw [decide_eq_false (fun z => by cases z), Bool.false_and]
      exact .no (by rw [valD_at?, hm]; rfl)
    | some x =>
      have hv : valD (m.map fun p => ((.inr p.1 : Key), f p.2)) (.inr p.1) = some (f x) := by rw [valD_at?, hm]; rfl
      have g := h p List.mem_cons_self _ (at?_mem hm)
      by_cases e : p.2 = x
      · rw [decide_eq_true e] at g
        rw [decide_eq_true (by rw [e]), Bool.true_and]
        exact .tt hv g (eqEach_of fun q hq => h q (List.mem_cons_of_mem _ hq))
      · rw [decide_eq_false e] at g
        rw [decide_eq_false (fun z => e (Option.some.inj z).symm), Bool.false_and]
        exact .ff hv g
theorem eqDct_of {α : Type} [DecidableEq α] {E : D → D → Bool → Prop} {f : α → D} {l m : List (Str × α)} (h : ∀ p ∈ l, ∀ q ∈ m, E (f p.2) (f q.2) (decide (p.2 = q.2))) : EqDct E (l.map fun p => ((.inr p.1 : Key), f p.2)) (m.map fun p => ((.inr p.1 : Key), f p.2)) (eqP l m) := by
  unfold EqDct eqP
  by_cases hl : l.length = m.length
  · rw [decide_eq_true hl, Bool.true_and]
    exact .inl ⟨by rw [List.length_map, List.length_map]; exact hl, eqEach_of h⟩
  · rw [decide_eq_false hl, Bool.false_and]
    exact .inr ⟨by rw [List.length_map, List.length_map]; exact hl, rfl⟩
theorem eqP_refl {α : Type} [DecidableEq α] {l : List (Str × α)} (hn : (l.map (·.1)).Nodup) : eqP l l = true := by
  unfold eqP
  rw [decide_eq_true rfl, Bool.true_and, List.all_eq_true]
  exact fun p hp => decide_eq_true (mem_at? hn hp)
def bEqQ (C : Addr) (rs : List Rv) (k : Rv → Prop) : Prop := ∃ p q : Rat, rs = [.d (ratQ C p), .d (ratQ C q)] ∧ k (.d (.bl (decide (p = q))))
theorem ratQ_inj {C : Addr} {p q : Rat} (h : ratQ C p = ratQ C q) : p = q := by
  injection h with _ h
  injection h with h1 h2
  injection h1 with _ h1
  injection h1 with h1
  injection h2 with h2 _
  injection h2 with _ h2
  injection h2 with h2
  exact Rat.ext h1 (by omega)
def eqY (y z : Yd) : Bool := eqP y.sp z.sp && (eqP (y.tk.map fun t => (t.1, t.2.1)) (z.tk.map fun t => (t.1, t.2.1)) && eqP (y.tk.map fun t => (t.1, t.2.2)) (z.tk.map fun t => (t.1, t.2.2)))
/-- the names of the places -/
def PlNm (y : Yd) : Prop := ∀ t ∈ y.tk, ∀ h ∈ t.2.2, nmB h = true
def bEqY (C R : Addr) (rs : List Rv) (k : Rv → Prop) : Prop := ∃ y z : Yd, rs = [.d (yd C R y), .d (yd C R z)] ∧ PlNm y ∧ PlNm z ∧ k (.d (.bl (eqY y z)))
theorem eqY_refl {y : Yd} (ok : YOk y) : eqY y y = true := by
  unfold eqY
  rw [eqP_refl ok.spn, eqP_refl (by rw [List.map_map]; exact ok.tkn), eqP_refl (by rw [List.map_map]; exact ok.tkn)]
  rfl
end Dt
namespace Lw
open PySem PySem.Spec PyProof.Rows L2 Ly Dt
local macro_rules | `(tactic| walk_at "wk") => `(tactic| first
  | ((with_reducible refine' w_var ?hv ?hn ?_); (case hv => exact rfl); (case hn => (intro z; cases z)))
  | with_reducible refine w_int ?_
  | with_reducible refine w_str ?_
  | with_reducible refine w_op ?_
  | with_reducible refine wa_cons ?_
  | with_reducible refine wa_nil ?_
  | with_reducible refine w_reprL ?_
  | with_reducible refine w_isi2 ?_
  | with_reducible refine w_cb ?_
  | with_reducible refine w_call ?_
  | ((with_reducible refine' ws_retV ?hv ?_); (case hv => exact rfl))
  | with_reducible refine ws_seq ?_
  | with_reducible refine ws_asg ?_
  | with_reducible refine ws_ret ?_
  | with_reducible refine ws_if ?_
  | with_reducible refine ws_next ?_
  | ((with_reducible refine' ws_append ?hv ?hz ?_); (case hv => exact rfl); rotate_left)
  | with_reducible refine ws_drop ?_
  | with_reducible refine ws_retN ?_
  | ((with_reducible refine wg_d ?_); dsimp only [List.set])
  | ((with_reducible refine wg_raw ?_); dsimp only [List.set])
  | ((with_reducible refine wg_E ?_))
  | ((with_reducible refine' we_tup ?hl ?_); (case hl => exact rfl))
  | with_reducible refine wes_cons ?_
  | with_reducible refine wes_nil ?_
  | ((with_reducible refine we_name ?_); dsimp only [List.set])
  | with_reducible refine out_d ?_
  | with_reducible refine out_new ?_
  | with_reducible refine ex_bl ?_
  | with_reducible refine ite_t ?_
  | ((with_reducible refine ex_fzd ?_); dsimp only [List.set, List.nil_append, List.cons_append])
  | ((with_reducible refine ex_fzn ?_); dsimp only [List.set, List.nil_append, List.cons_append])
  | with_reducible refine ite_nt ?_
  | with_reducible refine ite_nf ?_
  | with_reducible refine ite_f ?_
  | with_reducible refine wt_tb ?_
  | with_reducible refine wt_test ?_
  | with_reducible refine wt_and ?_
  | with_reducible refine wt_or ?_
  | with_reducible refine wt_not ?_
  | with_reducible refine w_andV ?_
  | with_reducible refine w_orV ?_
  | with_reducible refine w_notV ?_
  | with_reducible refine w_if ?_
  | with_reducible refine w_bl ?_
  | with_reducible refine w_non ?_
  | with_reducible refine w_ty ?_
  | with_reducible refine w_ref ?_
  | with_reducible refine w_un ?_
  | ((with_reducible refine w_tup ?_); skip)
  | ((with_reducible refine w_lst ?_); skip)
  | ((with_reducible refine' Exists.intro _ (And.intro ?hf (And.intro ?hl ?_))); (case hf => exact rfl); (case hl => exact Nat.le_of_ble_eq_true rfl))
  | with_reducible refine w_fld ?_
  | ((with_reducible refine' fld_of ?ho ?c ?n ?l ?_); (case ho => exact rfl); (case c => assumption); (case n => with_reducible assumption); (case l => exact rfl))
  | with_reducible refine wp_top ?_
  | with_reducible refine wp_bot ?_
  | with_reducible refine w_prop ?_
  | with_reducible refine w_meth ?_
  | with_reducible refine w_smeth ?_
  | with_reducible refine wop_addI ?_
  | with_reducible refine wop_subI ?_
  | ((with_reducible refine' wop_mulI ?c ?_); rotate_left)
  | ((with_reducible refine' wop_fdI ?c ?_); rotate_left)
  | with_reducible refine wop_mdI (by first | decide | assumption) ?_
  | ((with_reducible refine' wop_mdI ?c ?_); rotate_left)
  | ((with_reducible refine' wop_I0 ?e ?_); (case e => exact rfl))
  | ((with_reducible refine' wop_ixT ?e ?_); (case e => exact rfl))
  | ((with_reducible refine' wcb_lenL ?e ?_); (case e => exact rfl))
  | with_reducible refine wcb_lenT ?_
  | ((with_reducible refine' wop_fdX ?c ?_); rotate_left)
  | ((with_reducible refine' wun_U ?e ?_); (case e => exact rfl))
  | with_reducible refine wop_eqI ?_
  | with_reducible refine wop_neI ?_
  | with_reducible refine wop_eqS ?_
  | with_reducible refine wop_neS ?_
  | with_reducible refine wop_isN ?_
  | with_reducible refine wop_notN ?_
  | ((with_reducible refine' wop_inS ?e ?_); (case e => exact rfl))
  | ((with_reducible refine' wop_niS ?e ?_); (case e => exact rfl))
  | with_reducible refine wop_inST ?_
  | with_reducible refine wcb_gcd ?_
  | with_reducible refine wcb_abs ?_
  | with_reducible refine wcb_max2 ?_
  | with_reducible refine wcb_min2 ?_
  | with_reducible refine wcb_int ?_
  | ((with_reducible refine' wcb_isi (b := true) ?ho ?hb ?_); (case ho => exact rfl); (case hb => (dsimp only [tyN]; decide +kernel)))
  | ((with_reducible refine' wcb_isi (b := false) ?ho ?hb ?_); (case ho => exact rfl); (case hb => (dsimp only [tyN]; decide +kernel)))
  | ((with_reducible refine' wcb_listOf ?e ?_); (case e => exact rfl))
  | with_reducible refine wcb_listOfT ?_
  | ((with_reducible refine' wcb_tupOf ?e ?_); (case e => exact rfl))
  | with_reducible refine w_chain ?_
  | with_reducible refine wcb_strS ?_
  | ((with_reducible refine' wcb_lenD ?e ?_); (case e => exact rfl))
  | ((with_reducible refine' wcb_listD ?e ?_); (case e => exact rfl))
  | with_reducible refine w_dnewK ?_
  | with_reducible refine w_dget ?_
  | with_reducible refine w_din ?_
  | with_reducible refine w_dni ?_
  | with_reducible refine w_lenSet ?_
  | with_reducible refine w_listVals ?_
  | with_reducible refine w_chain ?_
  | ((with_reducible refine' wt_yes ?_)))
variable {W : Wd} {a : Ad}
theorem mt_eq (T : Txt W.K W.mg a) : Mt W 1 a.Ratio "__eq__" (spW false (bEqQ a.Ratio)) := by
  refine mt_W T.d_Ratio_eq sc_Ratio_eq bd_Ratio_eq (fun rs k ⟨_, _, h, _⟩ => by rw [h]; rfl) (body_W (n := 2) (m := 0) rfl (fun rs k ⟨_, _, h, _⟩ => by rw [h]; rfl) fun f cdv A outer s H E hr => ⟨_, (pss_one (ps_ret (pe_and (pe_callB (r := rIsi W.K) call_isi (by rfl) T.b_isinstance (by decide +kernel) (pa_cons (pv 1) (pa_cons (pe_gn (v := .ref a.Ratio) (by rfl) T.o_Ratio.mg rfl) pa_nil))) (pe_and (pe_cmpR (r := rEqU W.K) (op_eqU hr.units) (pe_fldK (K := W.K) rfl (pv 0) rfl) (pe_fldK (K := W.K) rfl (pv 1) rfl) (nomark _)) (pe_one (pe_cmpR (r := rEqU W.K) (op_eqU hr.units) (pe_fldK (K := W.K) rfl (pv 0) rfl) (pe_fldK (K := W.K) rfl (pv 1) rfl) (nomark _))))))), fun π rs kr hp hB => ?_⟩)
  obtain ⟨p, q, rfl, h⟩ := hB
  dsimp only [uns, List.replicate, List.cons_append, List.nil_append]
  have cR := T.o_Ratio.cls
  have nT := T.n_Ratio_top
  have nB := T.n_Ratio_bottom
  repeat walk_at "wk"
  refine wcb_isiO T.o_Ratio ?_
  repeat walk_at "wk"
  by_cases e1 : p.num = q.num
  · rw [decide_eq_true e1]
    repeat walk_at "wk"
    have e : decide ((p.den : Int) = (q.den : Int)) = decide (p = q) := decide_eq_decide.mpr ⟨fun z => Rat.ext e1 (by omega), fun z => by rw [z]⟩
    rw [e]
    exact h
  · rw [decide_eq_false e1]
    repeat walk_at "wk"
    rw [decide_eq_false (fun z => e1 (by rw [z]))] at h
    exact h
theorem my_eq (T : Txt W.K W.mg a) : Mt W 4 a.Yard "__eq__" (spW false (bEqY a.Yard a.Ratio)) := by
  refine mt_W T.d_Yard_eq sc_Yard_eq bd_Yard_eq (fun rs k ⟨_, _, h, _⟩ => by rw [h]; rfl) (body_W (n := 2) (m := 0) rfl (fun rs k ⟨_, _, h, _⟩ => by rw [h]; rfl) fun f cdv A outer s H E hr => ⟨_, (pss_one (ps_ret (pe_and (pe_callB (r := rIsi W.K) call_isi (by rfl) T.b_isinstance (by decide +kernel) (pa_cons (pv 1) (pa_cons (pe_gn (v := .ref a.Yard) (by rfl) T.o_Yard.mg rfl) pa_nil))) (pe_and (pe_cmpR (op_eqV (mt_eq T) hr (by decide)) (pe_fldK (K := W.K) rfl (pv 0) rfl) (pe_fldK (K := W.K) rfl (pv 1) rfl) (nomark _)) (pe_and (pe_cmpR (op_eqV (mt_eq T) hr (by decide)) (pe_fldK (K := W.K) rfl (pv 0) rfl) (pe_fldK (K := W.K) rfl (pv 1) rfl) (nomark _)) (pe_one (pe_cmpR (op_eqV (mt_eq T) hr (by decide)) (pe_fldK (K := W.K) rfl (pv 0) rfl) (pe_fldK (K := W.K) rfl (pv 1) rfl) (nomark _)))))))), fun π rs kr hp hB => ?_⟩)
  obtain ⟨y, z, rfl, ny, nz, h⟩ := hB
  dsimp only [uns, List.replicate, List.cons_append, List.nil_append]
  have cY := T.o_Yard.cls
  have nS := T.n_Yard_speeds
  have nW := T.n_Yard_works
  have nP := T.n_Yard_places
  repeat walk_at "wk"
  refine wcb_isiO T.o_Yard ?_
  have e1 : EqDct (EqV a.Ratio (bEqQ a.Ratio)) (spD y.sp) (spD z.sp) (eqP y.sp z.sp) := eqDct_of (f := D.int) fun p _ q _ => by
    have z := EqV.pl (C := a.Ratio) (B := bEqQ a.Ratio) (.int (i := p.2)) (.int (i := q.2)) rfl rfl
    have e : PyData.eqv (.int p.2) (.int q.2) = decide (p.2 = q.2) := by
      simp only [PyData.eqv]
      by_cases h : p.2 = q.2
      · rw [h]; simp
      · simp [h]
    rw [e] at z
    exact z
  have ew : ∀ l : List (Str × Rat × List Str), wkD a.Ratio l = (l.map fun t => (t.1, t.2.1)).map fun p => ((.inr p.1 : Key), ratQ a.Ratio p.2) := fun l => by
    unfold wkD
    rw [List.map_map]
    rfl
  have ep : ∀ l : List (Str × Rat × List Str), plD l = (l.map fun t => (t.1, t.2.2)).map fun p => ((.inr p.1 : Key), (fun ss : List Str => D.tup (ss.map .str)) p.2) := fun l => by
    unfold plD
    rw [List.map_map]
    rfl
  have e2 : EqDct (EqV a.Ratio (bEqQ a.Ratio)) (wkD a.Ratio y.tk) (wkD a.Ratio z.tk) (eqP (y.tk.map fun t => (t.1, t.2.1)) (z.tk.map fun t => (t.1, t.2.1))) := by
    rw [ew, ew]
    exact eqDct_of (f := ratQ a.Ratio) fun p _ q _ => .obj ⟨p.2, q.2, rfl, rfl⟩ fun e => decide_eq_true (ratQ_inj (C := a.Ratio) (congrArg (D.obj a.Ratio) e))
  have e3 : EqDct (EqV a.Ratio (bEqQ a.Ratio)) (plD y.tk) (plD z.tk) (eqP (y.tk.map fun t => (t.1, t.2.2)) (z.tk.map fun t => (t.1, t.2.2))) := by
    rw [ep, ep]
    refine eqDct_of (f := fun ss : List Str => D.tup (ss.map .str)) fun p hp q hq => ?_
    obtain ⟨t, ht, rfl⟩ := List.mem_map.mp hp
    obtain ⟨u, hu, rfl⟩ := List.mem_map.mp hq
    have z := EqV.pl (C := a.Ratio) (B := bEqQ a.Ratio) (.tup (pls_strs t.2.2)) (.tup (pls_strs u.2.2)) (shaped_strs fun s hs => strOk_nm (ny t ht s hs)).1 (shaped_strs fun s hs => strOk_nm (nz u hu s hs)).1
    have e : PyData.eqv (.tuple (t.2.2.map PyData.str)) (.tuple (u.2.2.map PyData.str)) = decide (t.2.2 = u.2.2) := by
      simp only [PyData.eqv, eqvAll_strs]
    rw [e] at z
    exact z
  unfold eqY at h
  generalize eqP y.sp z.sp = b1 at e1 h
  generalize eqP (y.tk.map fun t => (t.1, t.2.1)) (z.tk.map fun t => (t.1, t.2.1)) = b2 at e2 h
  generalize eqP (y.tk.map fun t => (t.1, t.2.2)) (z.tk.map fun t => (t.1, t.2.2)) = b3 at e3 h
  repeat walk_at "wk"
  refine wop_eqDD rfl rfl e1 ?_
  cases b1 with
  | false =>
    repeat walk_at "wk"
    exact h
  | true =>
    repeat walk_at "wk"
    refine wop_eqDD rfl rfl e2 ?_
    cases b2 with
    | false =>
      repeat walk_at "wk"
      exact h
    | true =>
      repeat walk_at "wk"
      refine wop_eqDD rfl rfl e3 ?_
      repeat walk_at "wk"
      exact h
end Lw
namespace Dt
open PySem PySem.Spec PyProof.Rows L2 Ly
/-- all lists of some names, in their sequence -/
def pset (l : List Str) : List (List Str) := l.foldl (fun acc x => acc ++ acc.map (· ++ [x])) [[]]
theorem pset_step (l : List Str) (x : Str) : pset (l ++ [x]) = pset l ++ (pset l).map (· ++ [x]) := by
  unfold pset
  rw [List.foldl_append]
  rfl
theorem pset_len : ∀ n (l : List Str), l.length = n → (pset l).length = 2 ^ n
  | 0, l, h => by
    rw [List.length_eq_zero_iff.mp h]
    rfl
  | n + 1, l, h => by
    have hn : l ≠ [] := fun z => by rw [z] at h; cases h
    have e := (List.dropLast_concat_getLast hn).symm
    have hl : l.dropLast.length = n := by rw [List.length_dropLast, h]; rfl
    rw [e, pset_step, List.length_append, List.length_map, pset_len n _ hl, Nat.pow_succ]
    omega
theorem pset_sub : ∀ n (l : List Str), l.length = n → ∀ p ∈ pset l, p.Sublist l
  | 0, l, h, p, hp => by
    rw [List.length_eq_zero_iff.mp h] at hp ⊢
    have : p = [] := by simpa [pset] using hp
    rw [this]
    exact List.Sublist.refl _
  | n + 1, l, h, p, hp => by
    have hn : l ≠ [] := fun z => by rw [z] at h; cases h
    have e := (List.dropLast_concat_getLast hn).symm
    have hl : l.dropLast.length = n := by rw [List.length_dropLast, h]; rfl
    rw [e, pset_step] at hp
    rw [e]
    rcases List.mem_append.mp hp with hp | hp
    · exact (pset_sub n _ hl p hp).trans (List.sublist_append_left ..)
    · obtain ⟨q, hq, rfl⟩ := List.mem_map.mp hp
      exact (pset_sub n _ hl q hq).append (List.Sublist.refl _)
def lsD (ps : List Str) : D := .lst (ps.map D.str)
end Dt
namespace Lw
open PySem PySem.Spec PyProof.Rows L2 Ly Dt
local macro_rules | `(tactic| walk_at "wk") => `(tactic| first
  | ((with_reducible refine' w_var ?hv ?hn ?_); (case hv => exact rfl); (case hn => (intro z; cases z)))
  | with_reducible refine w_int ?_
  | with_reducible refine w_str ?_
  | with_reducible refine w_op ?_
  | with_reducible refine wa_cons ?_
  | with_reducible refine wa_nil ?_
  | with_reducible refine w_reprL ?_
  | with_reducible refine w_isi2 ?_
  | with_reducible refine w_cb ?_
  | with_reducible refine w_call ?_
  | ((with_reducible refine' ws_retV ?hv ?_); (case hv => exact rfl))
  | with_reducible refine ws_seq ?_
  | with_reducible refine ws_asg ?_
  | with_reducible refine ws_ret ?_
  | with_reducible refine ws_if ?_
  | with_reducible refine ws_next ?_
  | ((with_reducible refine' ws_append ?hv ?hz ?_); (case hv => exact rfl); rotate_left)
  | with_reducible refine ws_drop ?_
  | with_reducible refine ws_retN ?_
  | ((with_reducible refine wg_d ?_); dsimp only [List.set])
  | ((with_reducible refine wg_raw ?_); dsimp only [List.set])
  | ((with_reducible refine wg_E ?_))
  | ((with_reducible refine' we_tup ?hl ?_); (case hl => exact rfl))
  | with_reducible refine wes_cons ?_
  | with_reducible refine wes_nil ?_
  | ((with_reducible refine we_name ?_); dsimp only [List.set])
  | with_reducible refine out_d ?_
  | with_reducible refine out_new ?_
  | with_reducible refine ex_bl ?_
  | with_reducible refine ite_t ?_
  | ((with_reducible refine ex_fzd ?_); dsimp only [List.set, List.nil_append, List.cons_append])
  | ((with_reducible refine ex_fzn ?_); dsimp only [List.set, List.nil_append, List.cons_append])
  | with_reducible refine ite_nt ?_
  | with_reducible refine ite_nf ?_
  | with_reducible refine ite_f ?_
  | with_reducible refine wt_tb ?_
  | with_reducible refine wt_test ?_
  | with_reducible refine wt_and ?_
  | with_reducible refine wt_or ?_
  | with_reducible refine wt_not ?_
  | with_reducible refine w_andV ?_
  | with_reducible refine w_orV ?_
  | with_reducible refine w_notV ?_
  | with_reducible refine w_if ?_
  | with_reducible refine w_bl ?_
  | with_reducible refine w_non ?_
  | with_reducible refine w_ty ?_
  | with_reducible refine w_ref ?_
  | with_reducible refine w_un ?_
  | ((with_reducible refine w_tup ?_); skip)
  | ((with_reducible refine w_lst ?_); skip)
  | ((with_reducible refine' Exists.intro _ (And.intro ?hf (And.intro ?hl ?_))); (case hf => exact rfl); (case hl => exact Nat.le_of_ble_eq_true rfl))
  | with_reducible refine w_fld ?_
  | ((with_reducible refine' fld_of ?ho ?c ?n ?l ?_); (case ho => exact rfl); (case c => assumption); (case n => with_reducible assumption); (case l => exact rfl))
  | with_reducible refine wp_top ?_
  | with_reducible refine wp_bot ?_
  | with_reducible refine w_prop ?_
  | with_reducible refine w_meth ?_
  | with_reducible refine w_smeth ?_
  | with_reducible refine wop_addI ?_
  | with_reducible refine wop_subI ?_
  | ((with_reducible refine' wop_mulI ?c ?_); rotate_left)
  | ((with_reducible refine' wop_fdI ?c ?_); rotate_left)
  | with_reducible refine wop_mdI (by first | decide | assumption) ?_
  | ((with_reducible refine' wop_mdI ?c ?_); rotate_left)
  | ((with_reducible refine' wop_I0 ?e ?_); (case e => exact rfl))
  | ((with_reducible refine' wop_ixT ?e ?_); (case e => exact rfl))
  | ((with_reducible refine' wcb_lenL ?e ?_); (case e => exact rfl))
  | with_reducible refine wcb_lenT ?_
  | ((with_reducible refine' wop_fdX ?c ?_); rotate_left)
  | ((with_reducible refine' wun_U ?e ?_); (case e => exact rfl))
  | with_reducible refine wop_eqI ?_
  | with_reducible refine wop_neI ?_
  | with_reducible refine wop_eqS ?_
  | with_reducible refine wop_neS ?_
  | with_reducible refine wop_isN ?_
  | with_reducible refine wop_notN ?_
  | ((with_reducible refine' wop_inS ?e ?_); (case e => exact rfl))
  | ((with_reducible refine' wop_niS ?e ?_); (case e => exact rfl))
  | with_reducible refine wop_inST ?_
  | with_reducible refine wcb_gcd ?_
  | with_reducible refine wcb_abs ?_
  | with_reducible refine wcb_max2 ?_
  | with_reducible refine wcb_min2 ?_
  | with_reducible refine wcb_int ?_
  | ((with_reducible refine' wcb_isi (b := true) ?ho ?hb ?_); (case ho => exact rfl); (case hb => (dsimp only [tyN]; decide +kernel)))
  | ((with_reducible refine' wcb_isi (b := false) ?ho ?hb ?_); (case ho => exact rfl); (case hb => (dsimp only [tyN]; decide +kernel)))
  | ((with_reducible refine' wcb_listOf ?e ?_); (case e => exact rfl))
  | with_reducible refine wcb_listOfT ?_
  | ((with_reducible refine' wcb_tupOf ?e ?_); (case e => exact rfl))
  | with_reducible refine w_chain ?_
  | with_reducible refine wcb_strS ?_
  | ((with_reducible refine' wcb_lenD ?e ?_); (case e => exact rfl))
  | ((with_reducible refine' wcb_listD ?e ?_); (case e => exact rfl))
  | with_reducible refine w_dnewK ?_
  | with_reducible refine w_dget ?_
  | with_reducible refine w_din ?_
  | with_reducible refine w_dni ?_
  | with_reducible refine w_lenSet ?_
  | with_reducible refine w_listVals ?_
  | with_reducible refine w_chain ?_
  | ((with_reducible refine' wt_yes ?_)))
variable {W : Wd} {a : Ad}
theorem k_law_sets (T : Txt W.K W.mg a) : Cl W 1 "_law_sets" (spW false fun rs k => ∃ ss : List Str, rs = [.d (lsD ss)] ∧ ss.length ≤ 10 ∧ (∀ s ∈ ss, nmB s = true) ∧ k (.new (.lst (((pset ss).filter fun p => !decide (p = [])).map lsD)))) := by
  refine cl_W T.d_law_sets sc_law_sets bd_law_sets (fun rs k ⟨_, h, _⟩ => by rw [h]; rfl) (body_W (n := 1) (m := 3) rfl (fun rs k ⟨_, h, _⟩ => by rw [h]; rfl) fun f cdv A outer s H E hr => ⟨_, (pss_cons (ps_set (i := 1) sc_law_sets.nd rfl (Or.inl rfl) (pe_lst (pa_cons (pe_lst pa_nil) pa_nil))) (pss_cons (ps_for PassesOwn.never rfl (pi_listK (K := W.K) rfl (pv 0)) (pg_name (i := 2) sc_law_sets.nd rfl (Or.inr rfl)) (pss_one (ps_set (i := 1) sc_law_sets.nd rfl (Or.inl rfl) (pe_op op_addU (pv 1) (pe_lc (own := [("_law_part", 3)]) (g := (gName 3)) (tt := tYes) rfl sc_law_sets.nd (pi_listK (K := W.K) rfl (pv 1)) (blkOk_by (N := N_law_sets) (sc := defScope s_law_sets) (by decide +kernel)) (fun _ _ _ _ _ => (pg_name (i := 3) sc_law_sets.nd rfl (Or.inl rfl))) (fun _ _ _ _ _ => pts_nil) (fun _ _ _ _ _ => (pe_op op_addU (pv 3) (pe_lst (pa_cons (pv 2) pa_nil))))))))) (pss_one (ps_ret (pe_lc (own := [("_law_part", 3)]) (g := (gName 3)) (tt := _) rfl sc_law_sets.nd (pi_listK (K := W.K) rfl (pv 1)) (blkOk_by (N := N_law_sets) (sc := defScope s_law_sets) (by decide +kernel)) (fun _ _ _ _ _ => (pg_name (i := 3) sc_law_sets.nd rfl (Or.inl rfl))) (fun _ _ _ _ _ => (pts_one (pt_cmpR (r := rNeU W.K) (op_neU hr.units) (pv 3) (pe_lst pa_nil) (nomark _)))) (fun _ _ _ _ _ => (pv 3))))))), fun π rs kr hp hB => ?_⟩)
  obtain ⟨ss, rfl, hl, nm, q⟩ := hB
  dsimp only [uns, List.replicate, List.cons_append, List.nil_append]
  repeat walk_at "wk"
  refine wg_new fun p1 => ?_
  dsimp only [List.set]
  repeat walk_at "wk"
  refine ws_for (wi_list ?_)
  repeat walk_at "wk"
  have h2 : ∀ i, (pset (ss.take i)).length ≤ 1024 := fun i => by
    rw [pset_len _ _ rfl]
    refine Nat.le_trans (Nat.pow_le_pow_right (by decide) (?_ : _ ≤ 10)) (by decide)
    rw [List.length_take]
    omega
  refine ⟨_, rfl, fun i δ => ∃ r r2 : Rv, δ = [.d (lsD ss), r, r2, .un] ∧ (r = .d (.lst ((pset (ss.take i)).map lsD)) ∨ ∃ p, r = .own p (.lst ((pset (ss.take i)).map lsD))), ⟨_, _, rfl, .inr ⟨_, rfl⟩⟩, fun i d δ' hd hI => ?_, fun δ' hI => ?_⟩
  · obtain ⟨r, r2, rfl, hc⟩ := hI
    rw [List.getElem?_map] at hd
    obtain ⟨s, hs, rfl⟩ := Option.map_eq_some_iff.mp hd
    have et : ss.take (i + 1) = ss.take i ++ [s] := by rw [List.take_add_one, hs]; rfl
    refine we_name ?_
    dsimp only [List.set]
    refine ws_gv (n := 1) rfl hc ?_
    dsimp only [List.set]
    repeat walk_at "wk"
    refine w_lcM (j := 3) (by decide) (fun d => match d with | .lst xs => .lst (xs ++ [.str s]) | _ => .non) (wi_list ?_)
    repeat walk_at "wk"
    refine ⟨_, rfl, by rw [List.length_map]; have := h2 i; omega, fun d hd => ?_, ?_⟩
    · obtain ⟨p, hm, rfl⟩ := List.mem_map.mp hd
      dsimp only [List.map, wipeD, List.set]
      repeat walk_at "wk"
      refine wop_cat rfl rfl ?_ ?_
      · have z := (pset_sub _ _ rfl p hm).length_le
        rw [List.length_take] at z
        rw [List.length_map]
        show p.length + 1 ≤ 4000
        omega
      · rfl
    · repeat walk_at "wk"
      have e1 : (((pset (ss.take i)).map lsD).map fun d => match d with | .lst xs => .lst (xs ++ [.str s]) | _ => .non) = ((pset (ss.take i)).map (· ++ [s])).map lsD := by
        rw [List.map_map, List.map_map]
        apply List.map_congr_left
        intro p hp
        show D.lst (p.map D.str ++ [.str s]) = D.lst ((p ++ [s]).map D.str)
        rw [List.map_append]
        rfl
      rw [e1]
      refine wop_cat rfl rfl ?_ ?_
      · rw [List.length_map, List.length_map, List.length_map]
        have := h2 i
        omega
      · rw [← List.map_append, ← pset_step, ← et]
        exact wg_new fun p5 => ⟨_, _, rfl, .inr ⟨_, rfl⟩⟩
  · obtain ⟨r, r2, rfl, hc⟩ := hI
    rw [List.length_map, List.take_length] at hc
    have h3 := h2 ss.length
    rw [List.take_length] at h3
    refine ws_gv (n := 1) rfl hc ?_
    dsimp only [List.set]
    repeat walk_at "wk"
    refine w_lc (gn_name (by decide)) (wi_list ?_)
    repeat walk_at "wk"
    refine ⟨_, rfl, lck_F (j := 3) (by decide) (fun d => match d with | .lst [] => false | _ => true) (fun d => d) (by rw [List.length_map]; omega) (fun d hd => ?_) (fun d hd hp2 => ?_) ?_⟩
    · obtain ⟨p, hm, rfl⟩ := List.mem_map.mp hd
      dsimp only [List.map, wipeD, List.set]
      repeat walk_at "wk"
      have hpn : ∀ s ∈ p, PyData.strOk s = true := fun s hs => strOk_nm (nm s ((pset_sub _ _ rfl p hm).mem hs))
      refine wop_neP rfl rfl (.lst (pls_strs p)) (.lst .nil) (shaped_strs hpn).2 rfl ?_
      repeat walk_at "wk"
      have e : PyData.eqv (.list (p.map PyData.str)) (.list []) = decide (p = []) := by
        have z := eqvAll_strs p []
        simp only [PyData.eqv]
        exact z
      rw [e]
      cases p <;> rfl
    · repeat walk_at "wk"
      rfl
    · repeat walk_at "wk"
      have e : (((pset ss).map lsD).filter fun d => match d with | .lst [] => false | _ => true).map (fun d => d) = ((pset ss).filter fun p => !decide (p = [])).map lsD := by
        rw [List.map_id', List.filter_map]
        congr 1
        apply List.filter_congr
        intro p _
        cases p <;> rfl
      rw [e]
      exact q
end Lw
namespace Dt
open PySem PySem.Spec PyProof.Rows L2 Ly GR Lw
/-- all servers: all tasks are confined -/
theorem conf_all {sp : List (Str × Int)} {lo : List Ld} (ok : MoOk sp lo) : conf (canon sp lo) (sortN (sp.map (·.1))) = (canon sp lo).tk := by
  unfold conf
  rw [List.filter_eq_self]
  intro t ht
  obtain ⟨u, hu, rfl⟩ := canon_tk_mem ok ht
  rw [List.all_eq_true]
  intro p hp
  exact decide_eq_true (sortN_mem.mpr (ok.sub u hu p (sortN_mem.mp hp)))
theorem canon_nm {sp : List (Str × Int)} {lo : List Ld} (ok : MoOk sp lo) : PlNm (canon sp lo) := by
  intro t ht h hh
  obtain ⟨u, hu, rfl⟩ := canon_tk_mem ok ht
  obtain ⟨p, hp, rfl⟩ := List.mem_map.mp (ok.sub u hu h (sortN_mem.mp hh))
  exact ok.so.nm p hp
theorem canon_tn {sp : List (Str × Int)} {lo : List Ld} (ok : MoOk sp lo) : ∀ t ∈ (canon sp lo).tk, nmB t.1 = true := by
  intro t ht
  obtain ⟨u, hu, rfl⟩ := canon_tk_mem ok ht
  exact ok.nm u hu
theorem all_shw {R : Addr} {sp : List (Str × Int)} {lo : List Ld} (ok : MoOk sp lo) : ∃ tx, Shw (rhoQ R) 1 5 (.lst [ratQ R ((canon sp lo).tk.map fun t => t.2.1).sum, .lst ((canon sp lo).tk.map fun t => D.str t.1)]) tx ∧ tx.length ≤ sizeLine := by
  have ht := (canon_ok ok).tkl
  have hnt := canon_tn ok
  have zw9 : SzQ 1900 ((canon sp lo).tk.map fun t => t.2.1).sum := by
    obtain ⟨L, hL⟩ := ok.qs
    have e := conf_sum ok (List.Perm.refl (sortN (sp.map (·.1))))
    rw [conf_all ok] at e
    rw [e]
    have hqs : QsOk ((lconf lo (sortN (sp.map (·.1)))).map fun t => t.2.1) L := hL.sub (fun x hx => by
      obtain ⟨t, ht, rfl⟩ := List.mem_map.mp hx
      exact List.mem_map.mpr ⟨t, (List.mem_filter.mp ht).1, rfl⟩) (by
        rw [List.length_map]
        exact Nat.le_trans (List.length_filter_le _ _) ok.len)
    have z9 := hqs.sum9
    exact ⟨sz_mono z9.1 (by decide), sz_mono z9.2 (by decide)⟩
  generalize ((canon sp lo).tk.map fun t => t.2.1).sum = w at zw9 ⊢
  have e1 : ((canon sp lo).tk.map fun t => D.str t.1) = ((canon sp lo).tk.map (·.1)).map D.str := by
    rw [List.map_map]
    rfl
  rw [e1]
  have hnm : ∀ s ∈ (canon sp lo).tk.map (·.1), nmB s = true := fun s hs => by
    obtain ⟨t, ht, rfl⟩ := List.mem_map.mp hs
    exact hnt t ht
  have hl : ((canon sp lo).tk.map (·.1)).length ≤ 24 := by rw [List.length_map]; exact ht
  generalize (canon sp lo).tk.map (·.1) = ns at hnm hl ⊢
  have w1 : Shw (rhoQ R) 1 4 (.lst (ns.map D.str)) (listText (ns.map reprText)) := .lst (shws_strs fun s hs2 => sl_of (Nat.le_trans (nmB_rp (hnm s hs2)) (by decide)))
  have w2 : Shw (rhoQ R) 1 4 (ratQ R w) (rtx w) := .obj ⟨w, rfl, zw9, rfl⟩ (by decide)
  refine ⟨_, .lst (.cons w2 (.cons w1 .nil)), sl_of ?_⟩
  have z := listText_len_le [rtx w, listText (ns.map reprText)]
  have l1 := names_len hnm hl
  have l2 := rtx_len zw9
  simp only [List.map_cons, List.map_nil, List.sum_cons, List.sum_nil, List.length_cons, List.length_nil] at z
  exact Nat.le_trans z (by omega)
end Dt
namespace Lw
open PySem PySem.Spec PyProof.Rows L2 Ly Dt
local macro_rules | `(tactic| walk_at "wk") => `(tactic| first
  | ((with_reducible refine' w_var ?hv ?hn ?_); (case hv => exact rfl); (case hn => (intro z; cases z)))
  | with_reducible refine w_int ?_
  | with_reducible refine w_str ?_
  | with_reducible refine w_op ?_
  | with_reducible refine wa_cons ?_
  | with_reducible refine wa_nil ?_
  | with_reducible refine w_reprL ?_
  | with_reducible refine w_isi2 ?_
  | with_reducible refine w_cb ?_
  | with_reducible refine w_call ?_
  | ((with_reducible refine' ws_retV ?hv ?_); (case hv => exact rfl))
  | with_reducible refine ws_seq ?_
  | with_reducible refine ws_asg ?_
  | with_reducible refine ws_ret ?_
  | with_reducible refine ws_if ?_
  | with_reducible refine ws_next ?_
  | ((with_reducible refine' ws_append ?hv ?hz ?_); (case hv => exact rfl); rotate_left)
  | with_reducible refine ws_drop ?_
  | with_reducible refine ws_retN ?_
  | ((with_reducible refine wg_d ?_); dsimp only [List.set])
  | ((with_reducible refine wg_raw ?_); dsimp only [List.set])
  | ((with_reducible refine wg_E ?_))
  | ((with_reducible refine' we_tup ?hl ?_); (case hl => exact rfl))
  | with_reducible refine wes_cons ?_
  | with_reducible refine wes_nil ?_
  | ((with_reducible refine we_name ?_); dsimp only [List.set])
  | with_reducible refine out_d ?_
  | with_reducible refine out_new ?_
  | with_reducible refine ex_bl ?_
  | with_reducible refine ite_t ?_
  | ((with_reducible refine ex_fzd ?_); dsimp only [List.set, List.nil_append, List.cons_append])
  | ((with_reducible refine ex_fzn ?_); dsimp only [List.set, List.nil_append, List.cons_append])
  | with_reducible refine ite_nt ?_
  | with_reducible refine ite_nf ?_
  | with_reducible refine ite_f ?_
  | with_reducible refine wt_tb ?_
  | with_reducible refine wt_test ?_
  | with_reducible refine wt_and ?_
  | with_reducible refine wt_or ?_
  | with_reducible refine wt_not ?_
  | with_reducible refine w_andV ?_
  | with_reducible refine w_orV ?_
  | with_reducible refine w_notV ?_
  | with_reducible refine w_if ?_
  | with_reducible refine w_bl ?_
  | with_reducible refine w_non ?_
  | with_reducible refine w_ty ?_
  | with_reducible refine w_ref ?_
  | with_reducible refine w_un ?_
  | ((with_reducible refine w_tup ?_); skip)
  | ((with_reducible refine w_lst ?_); skip)
  | ((with_reducible refine' Exists.intro _ (And.intro ?hf (And.intro ?hl ?_))); (case hf => exact rfl); (case hl => exact Nat.le_of_ble_eq_true rfl))
  | with_reducible refine w_fld ?_
  | ((with_reducible refine' fld_of ?ho ?c ?n ?l ?_); (case ho => exact rfl); (case c => assumption); (case n => with_reducible assumption); (case l => exact rfl))
  | with_reducible refine wp_top ?_
  | with_reducible refine wp_bot ?_
  | with_reducible refine w_prop ?_
  | with_reducible refine w_meth ?_
  | with_reducible refine w_smeth ?_
  | with_reducible refine wop_addI ?_
  | with_reducible refine wop_subI ?_
  | ((with_reducible refine' wop_mulI ?c ?_); rotate_left)
  | ((with_reducible refine' wop_fdI ?c ?_); rotate_left)
  | with_reducible refine wop_mdI (by first | decide | assumption) ?_
  | ((with_reducible refine' wop_mdI ?c ?_); rotate_left)
  | ((with_reducible refine' wop_I0 ?e ?_); (case e => exact rfl))
  | ((with_reducible refine' wop_ixT ?e ?_); (case e => exact rfl))
  | ((with_reducible refine' wcb_lenL ?e ?_); (case e => exact rfl))
  | with_reducible refine wcb_lenT ?_
  | ((with_reducible refine' wop_fdX ?c ?_); rotate_left)
  | ((with_reducible refine' wun_U ?e ?_); (case e => exact rfl))
  | with_reducible refine wop_eqI ?_
  | with_reducible refine wop_neI ?_
  | with_reducible refine wop_eqS ?_
  | with_reducible refine wop_neS ?_
  | with_reducible refine wop_isN ?_
  | with_reducible refine wop_notN ?_
  | ((with_reducible refine' wop_inS ?e ?_); (case e => exact rfl))
  | ((with_reducible refine' wop_niS ?e ?_); (case e => exact rfl))
  | with_reducible refine wop_inST ?_
  | with_reducible refine wcb_gcd ?_
  | with_reducible refine wcb_abs ?_
  | with_reducible refine wcb_max2 ?_
  | with_reducible refine wcb_min2 ?_
  | with_reducible refine wcb_int ?_
  | ((with_reducible refine' wcb_isi (b := true) ?ho ?hb ?_); (case ho => exact rfl); (case hb => (dsimp only [tyN]; decide +kernel)))
  | ((with_reducible refine' wcb_isi (b := false) ?ho ?hb ?_); (case ho => exact rfl); (case hb => (dsimp only [tyN]; decide +kernel)))
  | ((with_reducible refine' wcb_listOf ?e ?_); (case e => exact rfl))
  | with_reducible refine wcb_listOfT ?_
  | ((with_reducible refine' wcb_tupOf ?e ?_); (case e => exact rfl))
  | with_reducible refine w_chain ?_
  | with_reducible refine wcb_strS ?_
  | ((with_reducible refine' wcb_lenD ?e ?_); (case e => exact rfl))
  | ((with_reducible refine' wcb_listD ?e ?_); (case e => exact rfl))
  | with_reducible refine w_dnewK ?_
  | with_reducible refine w_dget ?_
  | with_reducible refine w_din ?_
  | with_reducible refine w_dni ?_
  | with_reducible refine w_lenSet ?_
  | with_reducible refine w_listVals ?_
  | with_reducible refine w_chain ?_
  | ((with_reducible refine' wt_yes ?_)))
variable {W : Wd} {a : Ad}
theorem k_law_right (T : Txt W.K W.mg a) : ClG W 12 "_law_right" (spW true fun rs k => rs = [.pot] ∧ k (.d (.bl true))) := by
  refine clg_W T.d_law_right sc_law_right bd_law_right (fun rs k ⟨h, _⟩ => by rw [h]; rfl) (body_G (n := 1) (m := 4) rfl (fun rs k ⟨h, _⟩ => by rw [h]; rfl) fun f cdv A outer s H E hr hgd => ⟨_, (pss_cons (ps_set (i := 1) sc_law_right.nd rfl (Or.inl rfl) (pe_cl (k_law_any T) hr (by decide) rfl (pa_cons (pv 0) (pa_cons pe_int (pa_cons pe_int pa_nil))))) (pss_cons (ps_par (i := 3) (j := 4) (by rfl) sc_law_right.nd rfl rfl (by decide) rfl rfl (pa_cons (pe_cl (k_law_yard T) hr (by decide) rfl (pa_cons (pv 0) (pa_cons (pv 1) pa_nil))) (pa_cons (pe_cl (k_law_yard T) hr (by decide) rfl (pa_cons (pv 0) (pa_cons (pv 1) pa_nil))) pa_nil)) (by rfl)) (pss_cons (ps_for PassesOwn.never rfl (pi_listK (K := W.K) rfl (pe_cl (kd_law_mixed T) hr (by decide) rfl (pa_cons (pv 0) (pa_cons (pe_cl (k_law_sets T) hr (by decide) rfl (pa_cons (pe_callB (r := rSortedR) (call_sortedR rfl) (by rfl) T.b_sorted (by decide +kernel) (pa_cons (pe_dget (room_u1 hr) (pv 1) pe_str (fun _ _ => rfl)) pa_nil)) pa_nil)) pa_nil)))) (pg_name (i := 2) sc_law_right.nd rfl (Or.inl rfl)) (pss_one (ps_if (pt_not (pt_val (pe_clG (k_law_part_right T) hr hgd (by decide) rfl (pa_cons (pv 0) (pa_cons (pv 1) (pa_cons (pv 3) (pa_cons (pv 2) pa_nil))))))) (pss_one (ps_ret pe_bl)) pss_nil))) (pss_cons (ps_set (i := 2) sc_law_right.nd rfl (Or.inl rfl) (pe_callB (r := rSortedR) (call_sortedR rfl) (by rfl) T.b_sorted (by decide +kernel) (pa_cons (pe_dget (room_u1 hr) (pv 1) pe_str (fun _ _ => rfl)) pa_nil))) (pss_cons (ps_if (pt_cmpR (r := rNeU W.K) (op_neU hr.units) (pe_callB (r := rShow (rhoQ a.Ratio) 1 5) (call_show (hr.mono (by decide)) hgd (rho_of (mt_rrepr T))) (by rfl) T.b_repr (by decide +kernel) (pa_cons (pe_lst (pa_cons (pe_mt T.o_Yard.cls (my_weight T) hr (by decide) (pv 3) (pa_cons (pv 2) pa_nil)) (pa_cons (pe_mt T.o_Yard.cls (my_confined T) hr (by decide) (pv 3) (pa_cons (pv 2) pa_nil)) pa_nil))) pa_nil)) (pe_callB (r := rShow (rhoQ a.Ratio) 1 5) (call_show (hr.mono (by decide)) hgd (rho_of (mt_rrepr T))) (by rfl) T.b_repr (by decide +kernel) (pa_cons (pe_lst (pa_cons (pe_pp T.o_Yard.cls (pp_total T) hr (by decide) (pv 3) rfl) (pa_cons (pe_mt0 T.o_Yard.cls (my_tasks T) hr (by decide) (pv 3)) pa_nil))) pa_nil)) (nomark _)) (pss_one (ps_ret pe_bl)) pss_nil) (pss_one (ps_ret (pe_and (pe_cmpR (op_eqO (my_eq T) T.o_Yard hr (by decide)) (pv 3) (pv 4) (nomark _)) (pe_one (pe_clG (k_law_part_right T) hr hgd (by decide) rfl (pa_cons (pv 0) (pa_cons (pv 1) (pa_cons (pv 4) (pa_cons (pv 2) pa_nil)))))))))))))), fun π rs kr hp hB => ?_⟩)
  obtain ⟨rfl, q⟩ := hB
  dsimp only [uns, List.replicate, List.cons_append, List.nil_append]
  repeat walk_at "wk"
  refine wcb_W hp (rs := [.pot, .d (.int 5), .d (.int 8)]) rfl ⟨5, 8, rfl, by decide, by decide, by decide, by decide, fun sp lo ok lsp llo => ?_⟩
  refine wg_new fun p1 => ?_
  dsimp only [List.set]
  refine ws_frz (n := 1) rfl ?_
  dsimp only [List.set]
  repeat walk_at "wk"
  refine ws_parF ?_
  repeat walk_at "wk"
  refine wcb_W hp (rs := [.pot, .d (modD sp lo)]) rfl ⟨sp, lo, rfl, ok, ?_⟩
  repeat walk_at "wk"
  refine wcb_W hp (rs := [.pot, .d (modD sp lo)]) rfl ⟨sp, lo, rfl, ok, ?_⟩
  repeat walk_at "wk"
  refine ⟨_, _, _, _, rfl, rfl, rfl, ?_⟩
  dsimp only [List.set]
  repeat walk_at "wk"
  have lS : (sortN (sp.map (·.1))).length ≤ 5 := by rw [sortN_len, List.length_map]; omega
  have ndS : (sortN (sp.map (·.1))).Nodup := sortN_nodup ok.so.nd
  have nmS : ∀ s ∈ sortN (sp.map (·.1)), nmB s = true := fun s hs => by
    obtain ⟨p, hp', rfl⟩ := List.mem_map.mp (sortN_mem.mp hs)
    exact ok.so.nm p hp'
  have neS : sortN (sp.map (·.1)) ≠ [] := fun z => by
    have := congrArg List.length z
    rw [sortN_len, List.length_map, List.length_nil] at this
    exact ok.so.ne (List.length_eq_zero_iff.mp this)
  refine ws_for (wi_list ?_)
  repeat walk_at "wk"
  refine ⟨_, _, _, _, rfl, rfl, rfl, rates_at, ?_⟩
  repeat walk_at "wk"
  refine wcb_sortedD (ks := sp.map (·.1)) rfl (spD_keys sp) (by rw [List.length_map]; omega) fun ys pm so => ?_
  rw [sortN_eq pm so]
  repeat walk_at "wk"
  refine wcb_W0 (rs := [.d (lsD (sortN (sp.map (·.1))))]) rfl rfl ⟨_, rfl, by omega, nmS, fun z => (by cases z), ?_⟩
  repeat walk_at "wk"
  have hps : ∀ p ∈ (pset (sortN (sp.map (·.1)))).filter fun p => !decide (p = []), p ≠ [] ∧ p.Sublist (sortN (sp.map (·.1))) := fun p hp' => by
    obtain ⟨h1, h2⟩ := List.mem_filter.mp hp'
    exact ⟨fun z => (by subst z; cases h2), pset_sub _ _ rfl p h1⟩
  have hlp : ((pset (sortN (sp.map (·.1)))).filter fun p => !decide (p = [])).length ≤ 32 := by
    refine Nat.le_trans (List.length_filter_le _ _) ?_
    rw [pset_len _ _ rfl]
    exact Nat.pow_le_pow_right (by decide) lS
  generalize ((pset (sortN (sp.map (·.1)))).filter fun p => !decide (p = [])) = pss at hps hlp
  refine wcb_mixed hp rfl (by rw [List.length_map]; omega) fun es pe => ?_
  have hes : ∀ d ∈ es, ∃ ps : List Str, d = lsD ps ∧ ps ≠ [] ∧ ps.Sublist (sortN (sp.map (·.1))) := fun d hd => by
    obtain ⟨ps, h1, rfl⟩ := List.mem_map.mp (pe.mem_iff.mp hd)
    exact ⟨ps, rfl, hps ps h1⟩
  refine ⟨_, rfl, fun i δ => ∃ r : Rv, δ = [.pot, .d (modD sp lo), r, .d (yd a.Yard a.Ratio (canon sp lo)), .d (yd a.Yard a.Ratio (canon sp lo))], ⟨_, rfl⟩, fun i d δ' hd hI => ?_, fun δ' hI => ?_⟩
  · obtain ⟨r, rfl⟩ := hI
    obtain ⟨ps, rfl, h1, h2⟩ := hes d (List.mem_of_getElem? hd)
    refine we_name ?_
    dsimp only [List.set]
    repeat walk_at "wk"
    refine wcb_W hp (rs := [.pot, .d (modD sp lo), .d (yd a.Yard a.Ratio (canon sp lo)), .d (lsD ps)]) rfl ⟨sp, lo, ps, rfl, ok, h1, ndS.sublist h2, fun p hm => sortN_mem.mp (h2.mem hm), ?_⟩
    repeat walk_at "wk"
    exact ⟨_, rfl⟩
  · obtain ⟨r, rfl⟩ := hI
    repeat walk_at "wk"
    refine ⟨_, _, _, _, rfl, rfl, rfl, rates_at, ?_⟩
    repeat walk_at "wk"
    refine wcb_sortedD (ks := sp.map (·.1)) rfl (spD_keys sp) (by rw [List.length_map]; omega) fun ys pm so => ?_
    rw [sortN_eq pm so]
    refine wg_new fun p2 => ?_
    dsimp only [List.set]
    refine ws_frz (n := 2) rfl ?_
    dsimp only [List.set]
    have hsb : setB (spD (canon sp lo).sp) (sortN (sp.map (·.1))) = true := by
      refine setB_of neS ndS fun s hm => ?_
      rw [spD_keys, canon_sp]
      exact List.mem_map.mpr ⟨s, hm, rfl⟩
    have hall := conf_all ok
    have ht := (canon_ok ok).tkl
    have hnt := canon_tn ok
    obtain ⟨tx, hw, hz⟩ := all_shw (R := a.Ratio) ok
    repeat walk_at "wk"
    refine ⟨⟨_, rfl, rfl⟩, ?_⟩
    repeat walk_at "wk"
    refine wcb_ys rfl (canon_ok ok) (.lst _) (by omega) hsb (by intro z; cases z) ?_
    repeat walk_at "wk"
    refine ⟨⟨_, rfl, rfl⟩, ?_⟩
    repeat walk_at "wk"
    refine wcb_ys rfl (canon_ok ok) (.lst _) (by omega) hsb (by intro z; cases z) ?_
    repeat walk_at "wk"
    rw [hall]
    refine ⟨_, tx, rfl, show 2 ≤ 4000 by decide, hw, hz, ?_⟩
    repeat walk_at "wk"
    refine ⟨⟨_, rfl⟩, wcb_W0 (rs := [.d (yd a.Yard a.Ratio (canon sp lo))]) rfl rfl ⟨_, rfl, canon_ok ok, fun z => (by cases z), ?_⟩⟩
    repeat walk_at "wk"
    refine ⟨⟨_, rfl, rfl⟩, ?_⟩
    repeat walk_at "wk"
    refine wcb_W0 (rs := [.d (yd a.Yard a.Ratio (canon sp lo))]) rfl rfl ⟨_, rfl, fun z => (by cases z), ?_⟩
    repeat walk_at "wk"
    refine ⟨_, tx, rfl, show 2 ≤ 4000 by decide, hw, hz, ?_⟩
    repeat walk_at "wk"
    refine ite_dn (fun h => (h rfl).elim) fun _ => ?_
    repeat walk_at "wk"
    refine wop_eqO rfl ⟨_, _, rfl, canon_nm ok, canon_nm ok, rfl⟩ ?_
    rw [eqY_refl (canon_ok ok)]
    repeat walk_at "wk"
    refine wcb_W hp (rs := [.pot, .d (modD sp lo), .d (yd a.Yard a.Ratio (canon sp lo)), .d (lsD (sortN (sp.map (·.1))))]) rfl ⟨sp, lo, _, rfl, ok, neS, ndS, fun p hm => sortN_mem.mp hm, ?_⟩
    exact out_d q
end Lw
namespace Dt
open PySem PySem.Spec PyProof.Rows L2 Ly
/-- a def that draws, called where no data are told -/
theorem pot_call {B : List Rv → (Rv → Prop) → Prop} {H : Hp} {Q : VK} {E : XK} {p : Addr} {b : Bool} (hp : Pot H p) (hB : B [.pot] fun r => r = .d (.bl b)) (q : ∀ H', Dr p H H' → Q (.bl b) H') : spW true B [.ref p] H Q E := by
  refine ⟨some p, fun a => a = p, [.pot], _, rfl, ⟨fun a e => ?_, fun c e => ?_⟩, rfl, ⟨⟨p, rfl, rfl⟩, trivial⟩, hB, fun v r H' k _ ra kr => ?_⟩
  · subst e
    obtain ⟨x, y, h, _⟩ := hp
    rw [h]
    exact fun z => by cases z
  · cases e
    exact ⟨rfl, hp⟩
  · subst kr
    cases ra
    exact q H' (k.dr hp)
end Dt
namespace Lw
open PySem PySem.Spec PyProof.Rows L2 Ly
local macro_rules | `(tactic| walk_at "rd") => `(tactic| first
  | ((with_reducible refine' i_var ?hv ?_); (case hv => exact rfl))
  | with_reducible refine i_c ?_
  | with_reducible refine i_op ?_
  | with_reducible refine i_cons ?_
  | with_reducible refine i_nil ?_
  | with_reducible refine i_cb ?_
  | with_reducible refine i_call ?_
  | with_reducible refine i_I0 ?_
  | with_reducible refine i_add_i ?_
  | with_reducible refine i_sub_i ?_
  | with_reducible refine i_md_i (by first | decide | assumption) ?_
  | ((with_reducible refine' i_md_i ?c ?_); rotate_left)
  | ((with_reducible refine' i_mul_i ?c ?_); rotate_left)
  | with_reducible refine i_fd_i (by decide) ?_
  | ((with_reducible refine' i_fd_i ?c ?_); rotate_left)
  | with_reducible refine i_int ?_
  | with_reducible refine i_abs ?_
  | with_reducible refine i_max2 ?_
  | with_reducible refine i_min2 ?_
  | with_reducible refine i_gcd ?_
  | with_reducible refine i_seq ?_
  | with_reducible refine i_if ?_
  | with_reducible refine i_asg ?_
  | with_reducible refine i_ret ?_
  | with_reducible refine i_drop ?_
  | with_reducible refine i_next ?_
  | with_reducible refine i_un ?_
  | with_reducible refine i_U ?_
  | ((with_reducible refine i_gname ?_); dsimp only [List.set])
  | with_reducible refine i_test ?_
  | with_reducible refine i_not ?_
  | with_reducible refine i_tb ?_
  | with_reducible refine i_andV ?_
  | with_reducible refine i_orV ?_
  | with_reducible refine i_notV ?_
  | with_reducible refine i_ifx ?_
  | with_reducible refine i_ext ?_
  | with_reducible refine i_exf ?_
  | with_reducible refine i_exn ?_
  | with_reducible refine i_itt ?_
  | with_reducible refine i_itf ?_
  | with_reducible refine i_gsub ?_
  | with_reducible refine i_nt ?_
  | with_reducible refine i_tup ?_
  | with_reducible refine i_lst ?_
  | with_reducible refine i_nf ?_
  | with_reducible refine i_isint ?_
  | ((with_reducible refine' i_top ?r ?_); (case r => walk_at "hp"))
  | ((with_reducible refine' i_bot ?r ?_); (case r => walk_at "hp"))
  | with_reducible refine i_fld ?_
  | with_reducible refine i_sfld ?_
  | with_reducible refine i_pp ?_
  | with_reducible refine i_meth ?_
  | with_reducible refine i_smeth ?_
  | with_reducible refine i_make ?_
  | with_reducible refine i_sl ?_
  | with_reducible refine i_noPart ?_
  | with_reducible refine i_part ?_
  | with_reducible refine i_smethK ?_
  | with_reducible refine i_sk1 ?_
  | with_reducible refine i_makeK ?_
  | with_reducible refine i_methK ?_
  | with_reducible refine i_mk11 ?_
  | ((with_reducible refine' i_rmk ?r ?h1 ?h2 ?_); (case r => walk_at "hp"); (case h1 => decide +kernel); (case h2 => decide +kernel))
  | with_reducible refine i_tpar ?_
  | ((with_reducible refine i_rpar ?_); dsimp only [List.set])
  | with_reducible refine i_eq_s rfl ?_
  | with_reducible refine i_ne_s rfl ?_
  | ((with_reducible refine' i_rtop ?r ?c ?n ?_); (case r => walk_at "hp"); (case c => assumption); (case n => assumption))
  | ((with_reducible refine' i_rbot ?r ?c ?n ?_); (case r => walk_at "hp"); (case c => assumption); (case n => assumption))
  | ((with_reducible refine' i_rpp ?r ?_); (case r => walk_at "hp"))
  | ((with_reducible refine' i_rmeth ?r ?h1 ?h2 ?_); (case r => walk_at "hp"); (case h1 => decide +kernel); (case h2 => decide +kernel))
  | ((with_reducible refine' i_ix_l ?hp ?ha ?_); (case hp => walk_at "hp"); (case ha => exact rfl))
  | ((with_reducible refine' i_len_l ?hp ?_); (case hp => walk_at "hp"))
  | ((with_reducible refine' i_ix_f0 ?hp ?_); (case hp => walk_at "hp"))
  | ((with_reducible refine' i_ix_f1 ?hp ?_); (case hp => walk_at "hp"))
  | ((with_reducible refine' i_ix_t ?hp ?ha ?_); (case hp => walk_at "hp"); (case ha => exact rfl)))
local macro_rules | `(tactic| walk_at "hp") => `(tactic| first
  | assumption
  | exact upd_same
  | exact SqL.of (by assumption)
  | (refine' Dr.tup (by assumption) ?hq; (case hq => walk_at "hp"))
  | (refine' FrL.same (by assumption) ?hq; (case hq => walk_at "hp"))
  | (refine' FracAt.same (by assumption) ?hq; (case hq => walk_at "hp"))
  | (refine' FracAt.nl (by assumption) ?hq; (case hq => walk_at "hp"))
  | (refine' RatAt.nl (by assumption) ?hq; (case hq => walk_at "hp"))
  | (refine' Num.nl (by assumption) ?hq; (case hq => walk_at "hp"))
  | (refine' FracAt.pk (by assumption) ?hq; (case hq => walk_at "hp"))
  | (refine' RatAt.pk (by assumption) ?hq; (case hq => walk_at "hp"))
  | (refine' Num.pk (by assumption) ?hq; (case hq => walk_at "hp"))
  | (refine' Dr.keep (by assumption) _ _ (by assumption) ?hq; (case hq => walk_at "hp"))
  | (refine' (show Same _ _ by assumption) _ _ ?hq; (case hq => walk_at "hp"))
  | (refine' RatAt.same (by assumption) ?hq; (case hq => walk_at "hp"))
  | (refine' Num.same (by assumption) ?hq; (case hq => walk_at "hp")))
local macro_rules | `(tactic| walk_at "sm") => `(tactic| first
  | assumption
  | exact Same.refl _
  | (refine' Same.kl (by assumption) (by assumption) ?aa; (case aa => walk_at "sm"))
  | (refine' Same.trans ?aa (by assumption); (case aa => walk_at "sm")))
local macro_rules | `(tactic| walk_at "dr") => `(tactic| first
  | assumption
  | (refine' Dr.same ?aa (by assumption); (case aa => walk_at "dr"))
  | (refine' Dr.trans ?aa (by assumption); (case aa => walk_at "dr")))
variable {W : Wd} {a : Ad}
theorem k_law_pot (T : Txt W.K W.mg a) : Cl W 1 "_law_pot" (spPot W.K) := by
  refine cl_of' T.d_law_pot sc_law_pot bd_law_pot (fun vs H Q E ⟨s, ns, k, h, _⟩ => by rw [h]; rfl) fun f cdv A outer s0 H vs Q E hr h => ?_
  obtain ⟨s, ns, k, rfl, hs, k0, k1, q⟩ := h
  refine ⟨_, (pss_cons (ps_set (i := 2) sc_law_pot.nd rfl (Or.inl rfl) (pe_op op_addU (pe_op op_mulU pe_int (pv 1)) pe_int)) (pss_cons (ps_if (pt_cmpR op_lt (pv 1) (pe_callB (r := Ly.rLen W.K) call_lenU (by rfl) T.b_len (by decide +kernel) (pa_cons (pv 0) pa_nil)) (nomark _)) (pss_one (ps_set (i := 2) sc_law_pot.nd rfl (Or.inl rfl) (pe_callB call_absU (by rfl) T.b_abs (by decide +kernel) (pa_cons (pe_ix (r := rIx W.K) ix_U (pv 0) (pv 1) (fun _ _ => rfl)) pa_nil)))) pss_nil) (pss_one (ps_ret (pe_lst (pa_cons (pe_callB (call_max2U rfl) (by rfl) T.b_max (by decide +kernel) (pa_cons pe_int (pa_cons (pe_op op_subU (pv 2) (pe_op op_pow pe_int pe_int)) pa_nil))) (pa_cons (pe_op op_addU (pe_op op_modU (pe_op op_mulU (pe_callTy call_int1U (by rfl) T.b_int (by decide +kernel) (pa_cons (pe_op op_addU (pe_op op_modU (pe_callTy call_int1U (by rfl) T.b_int (by decide +kernel) (pa_cons (pv 2) pa_nil)) pe_int) pe_int) pa_nil)) (pe_op op_pow (pe_op op_addU (pe_op op_mulU pe_int (pv 1)) pe_int) pe_int)) pe_int) pe_int) pa_nil))))))), ?_⟩
  refine i_start (σ' := [some (V.ref s), some (V.int k), none]) rfl ?_
  have fin : ∀ c : Int, ∀ H1 : Hp, Same H H1 → ∀ p, H1 p = none → Q (.ref p) (upd H1 p (.lst [.int (if c - 10 ^ (18 : Int).toNat > 0 then c - 10 ^ (18 : Int).toNat else 0), .int ((c % 2147483549 + 7) * (2 * k + 3) ^ (3 : Int).toNat % 2147483477 + 1)])) := by
    intro c H1 s1 p np
    have m0 := Int.emod_nonneg ((c % 2147483549 + 7) * (2 * k + 3) ^ (3 : Int).toNat) (show (2147483477 : Int) ≠ 0 by decide)
    have m1 := Int.emod_lt_of_pos ((c % 2147483549 + 7) * (2 * k + 3) ^ (3 : Int).toNat) (show (0 : Int) < 2147483477 by decide)
    refine q p _ (s1.free np) (fun c o e => ?_) ⟨_, _, upd_same, by split <;> omega, by omega, by omega⟩
    rw [upd_ne (ne_of_none (s1 _ _ e) np)]
    exact s1 _ _ e
  have cm : CMulW 29 k := wide_mul (a := 5) (b := 7) (by decide) (by omega) (by decide) (by decide) (by decide)
  have cm2 : CMulW 2 k := wide_mul (a := 5) (b := 7) (by decide) (by omega) (by decide) (by decide) (by decide)
  have two : 2 ≤ sizeLine := by decide
  have fin2 : ∀ c : Int, rMkL [.int (if c - 10 ^ (18 : Int).toNat > 0 then c - 10 ^ (18 : Int).toNat else 0), .int ((c % 2147483549 + 7) * (2 * k + 3) ^ (3 : Int).toNat % 2147483477 + 1)] H Q := fun c => ⟨two, fin c H (Same.refl H)⟩
  have cp1 : CPow 10 18 := ⟨by decide, by decide, by decide⟩
  have cp2 : CPow (2 * k + 3) 3 := ⟨by decide, by decide, by omega⟩
  have cm3 : ∀ c : Int, CMulW (c % 2147483549 + 7) ((2 * k + 3) ^ (3 : Int).toNat) := fun c => by
    have m0 := Int.emod_nonneg c (show (2147483549 : Int) ≠ 0 by decide)
    have m1 := Int.emod_lt_of_pos c (show (0 : Int) < 2147483549 by decide)
    have z : Sz 8 (2 * k + 3) := by
      unfold Sz
      omega
    have z3 : Sz 24 ((2 * k + 3) ^ (3 : Int).toNat) := by
      have e : (2 * k + 3) ^ (3 : Int).toNat = (2 * k + 3) * (2 * k + 3) * (2 * k + 3) := by
        show (2 * k + 3) ^ 3 = _
        rw [Int.pow_succ, Int.pow_succ, Int.pow_succ, Int.pow_zero, Int.one_mul]
      rw [e]
      exact sz_mul (sz_mul z z) z
    exact cmul_sz (n := 32) (by unfold Sz; omega) z3
  repeat walk_at "rd"
  refine i_len_L hs ?_
  repeat walk_at "rd"
  refine i_dec (fun h0 => ?_) (fun h0 => ?_)
  · have hlt : k.toNat < ns.length := by
      rw [List.length_map] at h0
      omega
    repeat walk_at "rd"
    refine i_ix_L hs (v := .int ns[k.toNat]) ?_ ?_
    · have z := atI_nat (xs := ns.map V.int) (j := k.toNat) (v := .int ns[k.toNat]) (by simp [hlt])
      rw [show ((k.toNat : Nat) : Int) = k by omega] at z
      exact z
    repeat walk_at "rd"
    refine i_I cp1 ?_
    repeat walk_at "rd"
    refine i_I cp2 ?_
    repeat walk_at "rd"
    · exact fin2 _
    · exact cm2
    · exact cm3 _
  · repeat walk_at "rd"
    refine i_I cp1 ?_
    repeat walk_at "rd"
    refine i_I cp2 ?_
    repeat walk_at "rd"
    · exact fin2 _
    · exact cm2
    · exact cm3 _
  · exact cm
def spLaw (K : PySem.W.Frag) : Sp := fun vs H Q _ => ∃ (a : Addr) (ns : List Int), vs = [.ref a] ∧ SqL K H a (ns.map V.int) ∧ ns.length ≤ 63 ∧ ∀ H', Q (.bl true) H'
theorem bo_law (T : Txt W.K W.mg a) : BodyG W 13 N_law "law" s_law (spLaw W.K) := by
  intro f cdv A outer s0 H vs Q E hr hgd h
  obtain ⟨l, ns, rfl, hs, hl, q⟩ := h
  refine ⟨_, (pss_one (ps_ret (pe_callB (r := rAll W.K) (cr_all rfl) (by rfl) T.b_all (by decide +kernel) (pa_cons (pe_lc (own := [("_law_k", 1)]) (g := (gName 1)) (tt := tYes) rfl sc_law.nd (pi_range1 rfl T.b_range (pa_cons (pe_callB (call_max2U rfl) (by rfl) T.b_max (by decide +kernel) (pa_cons pe_int (pa_cons (pe_callB (call_min2U rfl) (by rfl) T.b_min (by decide +kernel) (pa_cons pe_int (pa_cons (pe_callB (r := Ly.rLen W.K) call_lenU (by rfl) T.b_len (by decide +kernel) (pa_cons (pv 0) pa_nil)) pa_nil))) pa_nil))) pa_nil)) (blkOk_by (N := N_law) (sc := defScope s_law) (by decide +kernel)) (fun _ _ _ _ _ => (pg_name (i := 1) sc_law.nd rfl (Or.inl rfl))) (fun _ _ _ _ _ => pts_nil) (fun _ _ _ _ _ => (pe_clG (k_law_right T) hr hgd (by decide) rfl (pa_cons (pe_cl (k_law_pot T) hr (by decide) rfl (pa_cons (pv 0) (pa_cons (pv 1) pa_nil))) pa_nil)))) pa_nil)))), ?_⟩
  refine i_start (σ' := [some (V.ref l), none]) rfl ?_
  refine i_ret ?_
  refine i_cb ?_
  refine i_cons ?_
  have hlen : (ns.map V.int).length = ns.length := List.length_map ..
  refine i_lcR (m := if (if ((ns.map V.int).length : Int) < 4 then ((ns.map V.int).length : Int) else 4) > 1 then (if ((ns.map V.int).length : Int) < 4 then ((ns.map V.int).length : Int) else 4) else 1) (fun i H' v => v = V.bl true) (fun Q' hQ => ?_) ?_ ?_ (fun _ _ _ _ _ g => g) (fun x => rfl) ?_ ?_
  · repeat walk_at "rd"
    refine i_len_L hs ?_
    repeat walk_at "rd"
    exact hQ
  · split <;> omega
  · split
    · split <;> omega
    · decide
  · intro i H' Q' hi s q'
    have hi2 : (i : Int) < 100 := by
      have : (i : Int) < 5 := by
        refine Int.lt_of_lt_of_le hi ?_
        split
        · split <;> omega
        · decide
      omega
    dsimp only [List.map, wipe, List.set]
    repeat walk_at "rd"
    refine ⟨l, ns, (i : Int), rfl, s.seq hs, by omega, hi2, fun p H1 np s1 hp => ?_⟩
    repeat walk_at "rd"
    refine Dt.pot_call hp ⟨rfl, rfl⟩ fun H2 k2 => q' _ H2 (fun c o e => k2.keep c o (ne_of_none e np) (s1 _ _ e)) rfl
  · intro r H' ys nr s hr' hy g
    repeat walk_at "rd"
    have ey : ys = (List.replicate ys.length true).map V.bl := by
      apply List.ext_getElem?
      intro i
      rw [List.getElem?_map]
      rcases Nat.lt_or_ge i ys.length with h | h
      · rw [List.getElem?_eq_getElem h, g i ys[i] (List.getElem?_eq_getElem h)]
        simp [h]
      · simp [h]
    refine ⟨r, List.replicate ys.length true, rfl, ?_, ?_⟩
    · rw [← ey]
      exact SqL.of hr'
    · rw [show (List.replicate ys.length true).all id = true by simp]
      exact q H'
theorem fin {l : PySem.W.OpenLaw} {w : World} {K : PySem.W.Frag} {h : Heap} {mg : Str → Option Value} {fa R Y : Addr} (X : K.In h) (G : h.Ns mainGlobals mg) (hfa : mg "law" = some (.ref fa)) (_ : mg "Ratio" = some (.ref R)) (_ : mg "Yard" = some (.ref Y)) (T : Txt K mg ⟨R, Y⟩) :
    ∃ fd : FuncData, (∀ (s : Shared) (v : Value), BindsTo s fd ⟨[v], []⟩ [("_law_script", v)]) ∧ ∀ base : Heap, K.In base → base.Ns mainGlobals mg → FnG l.prog w K mg base 40 fa fd ["_law_script"] (spLaw K) := by
  obtain ⟨f, fd, F, hm⟩ := T.d_law.ex
  have e := hfa.symm.trans hm
  cases e
  obtain ⟨oc, od, kV, doc, pm, an, cdv, ct, osl, rfl, lk, hc⟩ := F.ex
  refine ⟨PySem.W.fnOf "law" "law" (defArgs s_law) (defBody s_law) (defScope s_law) .none kV doc pm an cdv ct, fun s v => .of_eq rfl, fun base _ _ => ?_⟩
  exact (fng_fun (W := ⟨l.prog, w, K, mg, base⟩) F sc_law (fun vs H Q E ⟨a, ns, h, _⟩ => by rw [h]; rfl) (bo_law (W := ⟨l.prog, w, K, mg, base⟩) (a := ⟨R, Y⟩) T)).mono (by decide)
end Lw
namespace Lw
open PySem PySem.Spec PyProof.Rows L2 Ly
def adOf (K : PySem.W.Frag) : Ad := ⟨He.ga K "Ratio", He.ga K "Yard"⟩
theorem txt_of {K : PySem.W.Frag} {h : Heap} {mg : Str → Option Value} (X : K.In h) (G : h.Ns mainGlobals mg) (c : SaysX hfa hfn K) : Txt K mg (adOf K) := by
  refine ⟨?_, ?_, ?_, ?_, ?_, ?_, ?_, ?_, ?_, ?_, ?_, ?_, ?_, ?_, ?_, ?_, ?_, ?_, ?_, ?_, ?_, ?_, ?_, ?_, ?_, ?_, ?_, ?_, ?_, ?_, ?_, ?_, ?_, ?_, ?_, ?_, ?_, ?_, ?_, ?_, ?_, ?_, ?_, ?_, ?_, ?_, ?_, ?_, ?_, ?_, ?_, ?_, ?_, ?_, ?_, ?_, ?_, ?_, ?_, ?_, ?_, ?_, ?_, ?_, ?_, ?_, ?_, ?_, ?_, ?_, ?_, ?_, ?_, ?_, ?_, ?_, ?_, ?_, ?_, ?_, ?_, ?_⟩
  · exact ownB_ok X G (c.fact 0 (f := fun K => ownB K "Ratio") rfl)
  · exact noaB_ok (c.fact 1 (f := fun K => noaB K "Ratio" "_top") rfl)
  · exact noaB_ok (c.fact 2 (f := fun K => noaB K "Ratio" "_bottom") rfl)
  · exact ownB_ok X G (c.fact 3 (f := fun K => ownB K "Yard") rfl)
  · exact noaB_ok (c.fact 4 (f := fun K => noaB K "Yard" "_speeds") rfl)
  · exact noaB_ok (c.fact 5 (f := fun K => noaB K "Yard" "_works") rfl)
  · exact noaB_ok (c.fact 6 (f := fun K => noaB K "Yard" "_places") rfl)
  · exact noaB_ok (c.fact 7 (f := fun K => noaB K "Yard" "_pairs") rfl)
  · exact gfX X G (c.fact 8 (f := fun K => bloB K "is_integer") rfl) (c.def_ 0 (d := ⟨fun K => He.ga K "is_integer", "is_integer", "is_integer", s_is_integer, []⟩) rfl)
  · exact gfX X G (c.fact 9 (f := fun K => bloB K "is_count") rfl) (c.def_ 1 (d := ⟨fun K => He.ga K "is_count", "is_count", "is_count", s_is_count, []⟩) rfl)
  · exact gfX X G (c.fact 10 (f := fun K => bloB K "is_name") rfl) (c.def_ 2 (d := ⟨fun K => He.ga K "is_name", "is_name", "is_name", s_is_name, []⟩) rfl)
  · exact gfX X G (c.fact 11 (f := fun K => bloB K "sorted_names") rfl) (c.def_ 3 (d := ⟨fun K => He.ga K "sorted_names", "sorted_names", "sorted_names", s_sorted_names, []⟩) rfl)
  · exact giX (c.fact 12 (f := fun K => mkrB K "Ratio") rfl) (c.def_ 4 (d := ⟨fun K => He.ma K (He.ga K "Ratio") "__init__", "__init__", "Ratio.__init__", s_Ratio_init, [.int 1]⟩) rfl)
  · exact gsX (c.fact 13 (f := fun K => staB K "Ratio" "of") rfl) (c.def_ 5 (d := ⟨fun K => gsA K "Ratio" "of", "of", "Ratio.of", s_Ratio_of, []⟩) rfl)
  · exact gpX (c.fact 14 (f := fun K => prpB K "Ratio" "top") rfl) (c.def_ 6 (d := ⟨fun K => gpA K "Ratio" "top", "top", "Ratio.top", s_Ratio_top, []⟩) rfl)
  · exact gpX (c.fact 15 (f := fun K => prpB K "Ratio" "bottom") rfl) (c.def_ 7 (d := ⟨fun K => gpA K "Ratio" "bottom", "bottom", "Ratio.bottom", s_Ratio_bottom, []⟩) rfl)
  · exact gmX (c.fact 16 (f := fun K => metB K "Ratio" "over") rfl) (c.def_ 8 (d := ⟨fun K => He.ma K (He.ga K "Ratio") "over", "over", "Ratio.over", s_Ratio_over, []⟩) rfl)
  · exact gmX (c.fact 17 (f := fun K => metB K "Ratio" "__eq__") rfl) (c.def_ 9 (d := ⟨fun K => He.ma K (He.ga K "Ratio") "__eq__", "__eq__", "Ratio.__eq__", s_Ratio_eq, []⟩) rfl)
  · exact gmX (c.fact 18 (f := fun K => metB K "Ratio" "__repr__") rfl) (c.def_ 10 (d := ⟨fun K => He.ma K (He.ga K "Ratio") "__repr__", "__repr__", "Ratio.__repr__", s_Ratio_repr, []⟩) rfl)
  · exact gfX X G (c.fact 19 (f := fun K => bloB K "is_amount") rfl) (c.def_ 11 (d := ⟨fun K => He.ga K "is_amount", "is_amount", "is_amount", s_is_amount, []⟩) rfl)
  · exact gfX X G (c.fact 20 (f := fun K => bloB K "sum_of") rfl) (c.def_ 12 (d := ⟨fun K => He.ga K "sum_of", "sum_of", "sum_of", s_sum_of, []⟩) rfl)
  · exact gfX X G (c.fact 21 (f := fun K => bloB K "common_bottom") rfl) (c.def_ 13 (d := ⟨fun K => He.ga K "common_bottom", "common_bottom", "common_bottom", s_common_bottom, []⟩) rfl)
  · exact giX (c.fact 22 (f := fun K => mkrB K "Yard") rfl) (c.def_ 14 (d := ⟨fun K => He.ma K (He.ga K "Yard") "__init__", "__init__", "Yard.__init__", s_Yard_init, [.non]⟩) rfl)
  · exact gmX (c.fact 23 (f := fun K => metB K "Yard" "servers") rfl) (c.def_ 15 (d := ⟨fun K => He.ma K (He.ga K "Yard") "servers", "servers", "Yard.servers", s_Yard_servers, []⟩) rfl)
  · exact gmX (c.fact 24 (f := fun K => metB K "Yard" "tasks") rfl) (c.def_ 16 (d := ⟨fun K => He.ma K (He.ga K "Yard") "tasks", "tasks", "Yard.tasks", s_Yard_tasks, []⟩) rfl)
  · exact gpX (c.fact 25 (f := fun K => prpB K "Yard" "total") rfl) (c.def_ 17 (d := ⟨fun K => gpA K "Yard" "total", "total", "Yard.total", s_Yard_total, []⟩) rfl)
  · exact gmX (c.fact 26 (f := fun K => metB K "Yard" "__eq__") rfl) (c.def_ 18 (d := ⟨fun K => He.ma K (He.ga K "Yard") "__eq__", "__eq__", "Yard.__eq__", s_Yard_eq, []⟩) rfl)
  · exact gmX (c.fact 27 (f := fun K => metB K "Yard" "confined") rfl) (c.def_ 19 (d := ⟨fun K => He.ma K (He.ga K "Yard") "confined", "confined", "Yard.confined", s_Yard_confined, []⟩) rfl)
  · exact gmX (c.fact 28 (f := fun K => metB K "Yard" "weight") rfl) (c.def_ 20 (d := ⟨fun K => He.ma K (He.ga K "Yard") "weight", "weight", "Yard.weight", s_Yard_weight, []⟩) rfl)
  · exact gmX (c.fact 29 (f := fun K => metB K "Yard" "speed_of") rfl) (c.def_ 21 (d := ⟨fun K => He.ma K (He.ga K "Yard") "speed_of", "speed_of", "Yard.speed_of", s_Yard_speed_of, []⟩) rfl)
  · exact gmX (c.fact 30 (f := fun K => metB K "Yard" "density") rfl) (c.def_ 22 (d := ⟨fun K => He.ma K (He.ga K "Yard") "density", "density", "Yard.density", s_Yard_density, []⟩) rfl)
  · exact gmX (c.fact 31 (f := fun K => metB K "Yard" "_check_set") rfl) (c.def_ 23 (d := ⟨fun K => He.ma K (He.ga K "Yard") "_check_set", "_check_set", "Yard._check_set", s_Yard_check_set, []⟩) rfl)
  · exact gfX X G (c.fact 32 (f := fun K => bloB K "is_speed") rfl) (c.def_ 24 (d := ⟨fun K => He.ga K "is_speed", "is_speed", "is_speed", s_is_speed, []⟩) rfl)
  · exact gfX X G (c.fact 33 (f := fun K => bloB K "is_set_of") rfl) (c.def_ 25 (d := ⟨fun K => He.ga K "is_set_of", "is_set_of", "is_set_of", s_is_set_of, []⟩) rfl)
  · exact gfX X G (c.fact 34 (f := fun K => bloB K "is_task") rfl) (c.def_ 26 (d := ⟨fun K => He.ga K "is_task", "is_task", "is_task", s_is_task, []⟩) rfl)
  · exact gfX X G (c.fact 35 (f := fun K => bloB K "is_name_dict") rfl) (c.def_ 27 (d := ⟨fun K => He.ga K "is_name_dict", "is_name_dict", "is_name_dict", s_is_name_dict, []⟩) rfl)
  · exact gfX X G (c.fact 36 (f := fun K => bloB K "check_speeds") rfl) (c.def_ 28 (d := ⟨fun K => He.ga K "check_speeds", "check_speeds", "check_speeds", s_check_speeds, []⟩) rfl)
  · exact gfX X G (c.fact 37 (f := fun K => bloB K "check_tasks") rfl) (c.def_ 29 (d := ⟨fun K => He.ga K "check_tasks", "check_tasks", "check_tasks", s_check_tasks, []⟩) rfl)
  · exact gfX X G (c.fact 38 (f := fun K => bloB K "_law_pot") rfl) (c.def_ 30 (d := ⟨fun K => He.ga K "_law_pot", "_law_pot", "_law_pot", s_law_pot, []⟩) rfl)
  · exact gfX X G (c.fact 39 (f := fun K => bloB K "_law_draw") rfl) (c.def_ 31 (d := ⟨fun K => He.ga K "_law_draw", "_law_draw", "_law_draw", s_law_draw, []⟩) rfl)
  · exact gfX X G (c.fact 40 (f := fun K => bloB K "_law_pick") rfl) (c.def_ 32 (d := ⟨fun K => He.ga K "_law_pick", "_law_pick", "_law_pick", s_law_pick, []⟩) rfl)
  · exact gfX X G (c.fact 41 (f := fun K => bloB K "_law_mixed") rfl) (c.def_ 33 (d := ⟨fun K => He.ga K "_law_mixed", "_law_mixed", "_law_mixed", s_law_mixed, []⟩) rfl)
  · exact gfX X G (c.fact 42 (f := fun K => bloB K "_law_named") rfl) (c.def_ 34 (d := ⟨fun K => He.ga K "_law_named", "_law_named", "_law_named", s_law_named, []⟩) rfl)
  · exact gfX X G (c.fact 43 (f := fun K => bloB K "_law_frac") rfl) (c.def_ 35 (d := ⟨fun K => He.ga K "_law_frac", "_law_frac", "_law_frac", s_law_frac, []⟩) rfl)
  · exact gfX X G (c.fact 44 (f := fun K => bloB K "_law_sum") rfl) (c.def_ 36 (d := ⟨fun K => He.ga K "_law_sum", "_law_sum", "_law_sum", s_law_sum, []⟩) rfl)
  · exact gfX X G (c.fact 45 (f := fun K => bloB K "_law_times") rfl) (c.def_ 37 (d := ⟨fun K => He.ga K "_law_times", "_law_times", "_law_times", s_law_times, []⟩) rfl)
  · exact gfX X G (c.fact 46 (f := fun K => bloB K "_law_number") rfl) (c.def_ 38 (d := ⟨fun K => He.ga K "_law_number", "_law_number", "_law_number", s_law_number, []⟩) rfl)
  · exact gfX X G (c.fact 47 (f := fun K => bloB K "_law_some") rfl) (c.def_ 39 (d := ⟨fun K => He.ga K "_law_some", "_law_some", "_law_some", s_law_some, []⟩) rfl)
  · exact gfX X G (c.fact 48 (f := fun K => bloB K "_law_any") rfl) (c.def_ 40 (d := ⟨fun K => He.ga K "_law_any", "_law_any", "_law_any", s_law_any, []⟩) rfl)
  · exact gfX X G (c.fact 49 (f := fun K => bloB K "_law_sets") rfl) (c.def_ 41 (d := ⟨fun K => He.ga K "_law_sets", "_law_sets", "_law_sets", s_law_sets, []⟩) rfl)
  · exact gfX X G (c.fact 50 (f := fun K => bloB K "_law_is_within") rfl) (c.def_ 42 (d := ⟨fun K => He.ga K "_law_is_within", "_law_is_within", "_law_is_within", s_law_is_within, []⟩) rfl)
  · exact gfX X G (c.fact 51 (f := fun K => bloB K "_law_weight") rfl) (c.def_ 43 (d := ⟨fun K => He.ga K "_law_weight", "_law_weight", "_law_weight", s_law_weight, []⟩) rfl)
  · exact gfX X G (c.fact 52 (f := fun K => bloB K "_law_rate") rfl) (c.def_ 44 (d := ⟨fun K => He.ga K "_law_rate", "_law_rate", "_law_rate", s_law_rate, []⟩) rfl)
  · exact gfX X G (c.fact 53 (f := fun K => bloB K "_law_yard") rfl) (c.def_ 45 (d := ⟨fun K => He.ga K "_law_yard", "_law_yard", "_law_yard", s_law_yard, []⟩) rfl)
  · exact gfX X G (c.fact 54 (f := fun K => bloB K "_law_due") rfl) (c.def_ 46 (d := ⟨fun K => He.ga K "_law_due", "_law_due", "_law_due", s_law_due, []⟩) rfl)
  · exact gfX X G (c.fact 55 (f := fun K => bloB K "_law_part_right") rfl) (c.def_ 47 (d := ⟨fun K => He.ga K "_law_part_right", "_law_part_right", "_law_part_right", s_law_part_right, []⟩) rfl)
  · exact gfX X G (c.fact 56 (f := fun K => bloB K "_law_right") rfl) (c.def_ 48 (d := ⟨fun K => He.ga K "_law_right", "_law_right", "_law_right", s_law_right, []⟩) rfl)
  · exact gfX X G (c.fact 57 (f := fun K => bloB K "law") rfl) (c.def_ 49 (d := ⟨fun K => He.ga K "law", "law", "law", s_law, []⟩) rfl)
  · exact freB_ok X G (c.fact 58 (f := fun K => freB K "abs") rfl)
  · exact freB_ok X G (c.fact 59 (f := fun K => freB K "len") rfl)
  · exact freB_ok X G (c.fact 60 (f := fun K => freB K "divmod") rfl)
  · exact freB_ok X G (c.fact 61 (f := fun K => freB K "max") rfl)
  · exact freB_ok X G (c.fact 62 (f := fun K => freB K "min") rfl)
  · exact freB_ok X G (c.fact 63 (f := fun K => freB K "all") rfl)
  · exact freB_ok X G (c.fact 64 (f := fun K => freB K "int") rfl)
  · exact freB_ok X G (c.fact 65 (f := fun K => freB K "str") rfl)
  · exact freB_ok X G (c.fact 66 (f := fun K => freB K "bool") rfl)
  · exact freB_ok X G (c.fact 67 (f := fun K => freB K "isinstance") rfl)
  · exact freB_ok X G (c.fact 68 (f := fun K => freB K "range") rfl)
  · exact freB_ok X G (c.fact 69 (f := fun K => freB K "repr") rfl)
  · exact freB_ok X G (c.fact 70 (f := fun K => freB K "list") rfl)
  · exact freB_ok X G (c.fact 71 (f := fun K => freB K "tuple") rfl)
  · exact freB_ok X G (c.fact 72 (f := fun K => freB K "dict") rfl)
  · exact freB_ok X G (c.fact 73 (f := fun K => freB K "sorted") rfl)
  · exact freB_ok X G (c.fact 74 (f := fun K => freB K "zip") rfl)
  · exact freB_ok X G (c.fact 75 (f := fun K => freB K "sum") rfl)
  · exact freB_ok X G (c.fact 76 (f := fun K => freB K "set") rfl)
  · exact biB_ok X G (c.fact 77 (f := fun K => biB K "gcd" "math.gcd") rfl)
  · exact biB_ok X G (c.fact 78 (f := fun K => biB K "lcm" "math.lcm") rfl)
  · exact cvX (c.fact 79 (f := fun K => cvB K "Yard" "MOST_SPEED" 1000) rfl)
  · exact cvX (c.fact 80 (f := fun K => cvB K "Yard" "MOST_SERVERS" 12) rfl)
  · exact cvX (c.fact 81 (f := fun K => cvB K "Yard" "MOST_TASKS" 24) rfl)
end Lw
open PySem PySem.W PySem.Calls PyProof.Rows
set_option maxRecDepth 100000 in
set_option maxHeartbeats 0 in
theorem PySem.Challenge.cw_evenloads_k23_sets_of_servers_holds : PySem.Challenge.rw_evenloads_k23_sets_of_servers.Holds := by
  w_on; o_law
  refine HandSHeadRun.head_imp (r := OpenLaw.row PySem.Challenge.rw_evenloads_k23_sets_of_servers) (q := Lw.hq) (H := Ly.hookX Lw.hfa Lw.hfn) (ob := Lw.hob) (M := 16022) (loose := Lw.hnames) (d := HandSHeadRun.topDef (OpenLaw.row PySem.Challenge.rw_evenloads_k23_sets_of_servers).prog 61) (kwd := []) Lw.hob_eq Lw.hrun
    (by kernel_rfl) (by kernel_rfl) (by kernel_rfl) (by rfl) (by first | assumption | decide +kernel) (by decide +kernel) ⟨rfl, rfl, rfl, rfl, rfl, by decide +kernel⟩ ?hw ?hc
  case hw => w_witness2
  case hc =>
    refine Ly.walk_ofX (l := PySem.Challenge.rw_evenloads_k23_sets_of_servers) (n := 63) (k := 40) (x := "_law_script") rfl (by decide) (by kernel_rfl) ⟨rfl, by decide, by decide⟩ ?F
    intro w mg fa h Y G hmg0
    obtain ⟨K, KX, c⟩ := Y
    have hmg : mg ("law" : PySem.Str) = some (.ref fa) := by
      have e : (HandSHeadRun.topDef (OpenLaw.row PySem.Challenge.rw_evenloads_k23_sets_of_servers).prog 61).name = ("law" : PySem.Str) := by kernel_rfl
      rw [← e]
      exact hmg0
    have T := Lw.txt_of KX G c
    obtain ⟨fd, hb, hF⟩ := Lw.fin (l := PySem.Challenge.rw_evenloads_k23_sets_of_servers) (w := w) KX G hmg T.o_Ratio.mg T.o_Yard.mg T
    exact ⟨K, fd, Lw.spLaw K, KX, hb, fun H a ns hl _ hS => ⟨a, ns, rfl, hS, hl, fun _ => rfl⟩, hF⟩
