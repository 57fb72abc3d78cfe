import PyProof.Rows.All
import Wide.All
import OpenK.AllK
import Wide.FinOn
import HandS.ForMost
import HandS.Wide
import HandS.WideBits
import HandS.ClsMeth
import HandS.Property
import HandS.Defaults
import HandS.Gcd
import HandS.FStr
import HandS.StrMore
import HandS.IsInst
import KE.KOpsOwn
import HandS.OwnEq
import PyProof.Rows.Range3
import HandS.MakeKwOnly
import HandS.Ends
import HandS.Evl
import HandS.Text
import HandS.Iter
import HandS.TupLe
import HandS.SortRule
import HandS.Walk
import PyProof.StrLawsRepr
import PySem.Challenge.RW_evenloads_k13_moves_in_order
set_option Elab.async false
set_option linter.all false
set_option maxRecDepth 100000
set_option maxHeartbeats 4000000
/-! My own layer: callable defs in one word, readings that unfold step by step. -/
namespace Ly
open PySem PySem.Spec PyProof.Rows L2

/-- where all stands -/
structure Wd where
  P : Program
  w : World
  K : PySem.W.Frag
  mg : Str → Option Value
  base : Heap

/-- a def of the module, without defaults, as it stands behind the top -/
structure GF (K : PySem.W.Frag) (mg : Str → Option Value) (x : Str) (st : Stmt) : Prop where
  ex : ∃ (f : Addr) (fd : FuncData), L2.Fun K x x st f fd ∧ mg x = some (.ref f)

/-- a def that may be called by its name -/
structure Cl (W : Wd) (k : Nat) (x : Str) (sp : Sp) : Prop where
  ex : ∃ (f : Addr) (fd : FuncData) (ps : List Str), FnOk W.P W.w W.K W.mg W.base CX0 k f fd ps sp ∧ W.mg x = some (.ref f) ∧ PySem.W.keepIn W.K (.ref f) = true ∧ Binds W.K fd ps []

theorem Cl.mono {W : Wd} {j k : Nat} {x : Str} {sp : Sp} (c : Cl W j x sp) (h : j ≤ k) : Cl W k x sp := by
  obtain ⟨f, fd, ps, F, a, b, d⟩ := c.ex
  exact ⟨f, fd, ps, F.mono h, a, b, d⟩
theorem Cl.imp {W : Wd} {k : Nat} {x : Str} {sp sp' : Sp} (c : Cl W k x sp) (h : ∀ vs H Q E, sp' vs H Q E → sp vs H Q E) : Cl W k x sp' := by
  obtain ⟨f, fd, ps, F, a, b, d⟩ := c.ex
  exact ⟨f, fd, ps, F.imp h, a, b, d⟩

theorem cl_of {W : Wd} {k : Nat} {x : Str} {st : Stmt} {N ps : List Str} {sp : Sp} (g : GF W.K W.mg x st) (S : FnScope N ps (defScope st))
    (hb : ∀ (kV doc pm : Value) (an : Option Addr) (cdv ct : Value) (us : List Value), us.length = ps.length → bindArgs (PySem.W.fnOf x x (defArgs st) (defBody st) (defScope st) .none kV doc pm an cdv ct) ⟨us, []⟩ = pure (ps.zip us))
    (len : ∀ vs H Q E, sp vs H Q E → vs.length = ps.length)
    (hbody : ∀ (f : Addr) (cdv : Value) (A : Around) (outer : List Env) (s : Shared) (H : Hp) (vs : List V) (Q : VK) (E : XK), Room k (A.deeper (envOfC x (defScope st) s.heap.objs.size f cdv)) → sp vs H Q E →
      ∃ t, PSs (cxOf CX0 W.P W.w W.K W.mg W.base N x (defScope st) f cdv A outer s H E).nox (defBody st) t ∧ t { nx := fun _ H' => Q .non H', rt := Q } (start N vs) H) : Cl W (k + 1) x sp := by
  obtain ⟨f, fd, F, hm⟩ := g.ex
  exact ⟨f, fd, ps, F.ok S len (fun cdv A outer s H vs Q E => hbody f cdv A outer s H vs Q E), hm, F.kp, F.binds hb⟩

section
variable {X : Cx} {k j : Nat} {x : Str} {sp : Sp} {p pos : Pos} {e : Expr} {es : List Expr} {t : TA}
theorem pe_cl (c : Cl ⟨X.prog, X.w, X.K, X.mg, X.base⟩ k x sp) (hr : Room j X.A) (hk : k ≤ j) (hg : Gl X x) (ha : PA X (e :: es) t)
    (hdb : (x == ("__debug__" : Str)) = false := by decide) (he : starEach (e :: es) X.env = (false, eval e X.env) :: starEach es X.env := by rfl) (hpl : (backTo pos (starEach es X.env)).any (·.1) = false := by rfl) :
    PE X (.Call (.Name x p) (e :: es) [] pos) (tCall sp [] E0 t) := by
  obtain ⟨f, fd, ps, F, hm, kp, b⟩ := c.ex
  exact pe_call F (hr.mono hk) hg hm kp b .nil pass0 ha hdb he hpl
end

/-! ### readings, step by step -/
section
variable {σ : L2.St} {H : Hp} {Q : VK} {K : PySem.W.Frag} {v x y : V} {ta tb te : TE} {t u : TA} {i j : Int} {D : Ends}
theorem i_var {n : Nat} (h : σ[n]? = some (some v)) (q : Q v H) : tVar n σ H Q := ⟨v, h, q⟩
theorem i_c (q : Q v H) : tC v σ H Q := q
theorem i_op {r : R2} (q : ta σ H fun x H1 => tb σ H1 fun y H2 => r x y H2 Q) : tOp r ta tb σ H Q := q
theorem i_un {r : V → Hp → VK → Prop} (q : ta σ H fun x H1 => r x H1 Q) : tUn r ta σ H Q := q
theorem i_I0 {g : Int → Int → V} (q : Q (g i j) H) : rI0 g (.int i) (.int j) H Q := ⟨i, j, rfl, rfl, q⟩
theorem i_I {C : Int → Int → Prop} {g : Int → Int → V} (c : C i j) (q : Q (g i j) H) : rI C g (.int i) (.int j) H Q := ⟨i, j, rfl, rfl, c, q⟩
theorem i_U {g : Int → V} (q : Q (g i) H) : rU g (.int i) H Q := ⟨i, rfl, q⟩
theorem i_nil {Q : List V → Hp → Prop} (q : Q [] H) : tNil σ H Q := q
theorem i_cons {Q : List V → Hp → Prop} (q : ta σ H fun x H1 => t σ H1 fun xs H2 => Q (x :: xs) H2) : tCons ta t σ H Q := q
theorem i_cb {r : List V → Hp → VK → Prop} (q : t σ H fun vs H1 => r vs H1 Q) : tCB r t σ H Q := q
theorem i_call {sp : Sp} {E : XK} (q : t σ H fun vs H1 => sp vs H1 Q E) : tCall sp [] E t σ H Q := by
  unfold tCall
  simpa only [List.append_nil] using q
theorem i_ret {te : TE} (q : te σ H D.rt) : tRet te D σ H := q
theorem i_seq {t u : TS} (q : t { D with nx := u D } σ H) : tSeq t u D σ H := q
theorem i_next (q : D.nx σ H) : tNext D σ H := q
theorem i_asg {g : TG} (q : te σ H fun x H1 => g x σ H1 D.nx) : tAsg te g D σ H := q
theorem i_gname {n : Nat} {Q : L2.St → Hp → Prop} (q : Q (σ.set n (some v)) H) : gName n v σ H Q := q
theorem i_if {c : TT} {t u : TS} (q : c σ H fun b H1 => if b = true then t D σ H1 else u D σ H1) : tIfS c t u D σ H := q
theorem i_dec {p A B : Prop} [Decidable p] (h1 : p → A) (h2 : ¬ p → B) : if decide p = true then A else B := by
  by_cases h : p
  · rw [if_pos (decide_eq_true h)]
    exact h1 h
  · rw [if_neg (by rw [decide_eq_false h]; exact Bool.false_ne_true)]
    exact h2 h
theorem i_start {t : TS} {σ' : L2.St} (e : σ = σ') (h : t D σ' H) : t D σ H := by
  rw [e]
  exact h
theorem i_test {te : TE} {Q : Bool → Hp → Prop} (q : te σ H fun x H1 => ∃ k, x = .bl k ∧ Q k H1) : tTest te σ H Q := q
theorem i_gsub {to ti : TE} {s : TSet} {Q : L2.St → Hp → Prop} (q : to σ H fun o H1 => ti σ H1 fun i H2 => s o i v H2 fun H3 => Q σ H3) : gSub to ti s v σ H Q := q
theorem i_ixL {p : Addr} {xs : List V} (h : SqL K H p xs) (ha : atI xs i = some v) (q : Q v H) : rIxL K (.ref p) (.int i) H Q := ⟨p, xs, i, v, rfl, rfl, h, ha, q⟩
theorem i_ixT {p : Addr} {xs : List V} (h : SqT K H p xs) (ha : atI xs i = some v) (q : Q v H) : rIxT K (.ref p) (.int i) H Q := ⟨p, xs, i, v, rfl, rfl, h, ha, q⟩
end
end Ly

namespace Ly
open PySem PySem.Spec PyProof.Rows L2
/-! ### rules for values of several kinds -/
def rInt1 : List V → Hp → VK → Prop := fun xs H Q => (∃ i, xs = [.int i] ∧ Q (.int i) H) ∨ ∃ k, xs = [.bl k] ∧ Q (.int (if k then 1 else 0)) H
theorem call_int1U {X : Cx} : CallR X (.type "int") rInt1 := call_int1
theorem i_int {H : Hp} {Q : VK} {i : Int} (q : Q (.int i) H) : rInt1 [.int i] H Q := .inl ⟨i, rfl, q⟩
def rAbs : List V → Hp → VK → Prop := fun xs H Q => ∃ i, xs = [.int i] ∧ Q (.int (if i < 0 then -i else i)) H
theorem call_absU {X : Cx} : CallR X (.builtin "abs") rAbs := call_abs
theorem i_abs {H : Hp} {Q : VK} {i : Int} (q : Q (.int (if i < 0 then -i else i)) H) : rAbs [.int i] H Q := ⟨i, rfl, q⟩
def rMax2 : List V → Hp → VK → Prop := fun xs H Q => ∃ i j, xs = [.int i, .int j] ∧ Q (.int (if j > i then j else i)) H
theorem call_max2U {X : Cx} (hc : X.calm = true) : CallR X (.builtin "max") rMax2 := call_max2 hc
theorem i_max2 {H : Hp} {Q : VK} {i j : Int} (q : Q (.int (if j > i then j else i)) H) : rMax2 [.int i, .int j] H Q := ⟨i, j, rfl, q⟩
def rMin2 : List V → Hp → VK → Prop := fun xs H Q => ∃ i j, xs = [.int i, .int j] ∧ Q (.int (if j < i then j else i)) H
theorem call_min2U {X : Cx} (hc : X.calm = true) : CallR X (.builtin "min") rMin2 := call_min2 hc
theorem i_min2 {H : Hp} {Q : VK} {i j : Int} (q : Q (.int (if j < i then j else i)) H) : rMin2 [.int i, .int j] H Q := ⟨i, j, rfl, q⟩
def rLen (K : PySem.W.Frag) : List V → Hp → VK → Prop := fun xs H Q => ∃ x n, xs = [x] ∧ LenV K x H n ∧ Q (.int n) H
theorem call_lenU {X : Cx} : CallR X (.builtin "len") (rLen X.K) := call_len
theorem i_len_l {K : PySem.W.Frag} {H : Hp} {Q : VK} {p : Addr} {xs : List V} (h : H p = some (.lst xs)) (q : Q (.int xs.length) H) : rLen K [.ref p] H Q := ⟨_, xs.length, rfl, .inl ⟨xs, SqL.of h, rfl⟩, q⟩
theorem i_len_L {K : PySem.W.Frag} {H : Hp} {Q : VK} {p : Addr} {xs : List V} (h : SqL K H p xs) (q : Q (.int xs.length) H) : rLen K [.ref p] H Q := ⟨_, xs.length, rfl, .inl ⟨xs, h, rfl⟩, q⟩
theorem i_len_t {K : PySem.W.Frag} {H : Hp} {Q : VK} {p : Addr} {xs : List V} (h : H p = some (.tup xs)) (q : Q (.int xs.length) H) : rLen K [.ref p] H Q := ⟨_, xs.length, rfl, .inr ⟨xs, SqT.of h, rfl⟩, q⟩
theorem i_len_s {K : PySem.W.Frag} {H : Hp} {Q : VK} {x : Str} (h : x.length ≤ sizeLine) (q : Q (.int x.length) H) : rLen K [.str x] H Q := ⟨_, x.length, rfl, ⟨h, rfl⟩, q⟩
def rDivmod : List V → Hp → VK → Prop := fun xs H Q => ∃ i j, xs = [.int i, .int j] ∧ CDivP i j ∧ ∀ p, H p = none → Q (.ref p) (upd H p (.tup [.int (i / j), .int (i % j)]))
theorem call_divmodU {X : Cx} : CallR X (.builtin "divmod") rDivmod := call_divmodW
theorem i_divmod {H : Hp} {Q : VK} {i j : Int} (c : CDivP i j) (q : ∀ p, H p = none → Q (.ref p) (upd H p (.tup [.int (i / j), .int (i % j)]))) : rDivmod [.int i, .int j] H Q := ⟨i, j, rfl, c, q⟩
def rOr (r s : R2) : R2 := fun x y H Q => r x y H Q ∨ s x y H Q
section
variable {X : Cx} {f : Value → Value → Sem Value} {r s : R2}
theorem opr_or (h : OpR X f r) (h' : OpR X f s) : OpR X f (rOr r s) := fun pins sh σ H x y v u Q I rx ry q => by
  rcases q with q | q
  · exact h pins sh σ H x y v u Q I rx ry q
  · exact h' pins sh σ H x y v u Q I rx ry q
def rAddS : R2 := fun x y H Q => ∃ i j, x = .str i ∧ y = .str j ∧ i.length + j.length ≤ sizeLine ∧ Q (.str (i ++ j)) H
def rAddU : R2 := rOr (rI0 fun i j => .int (i + j)) (rOr rAddS rCat)
theorem op_addU : OpR X (binaryOp .Add) rAddU := opr_or op_add (opr_or op_add_str op_cat)
def rSubU : R2 := rI0 fun i j => .int (i - j)
theorem op_subU : OpR X (binaryOp .Sub) rSubU := op_sub
def rMulU : R2 := rOr (rI CMulW fun i j => .int (i * j)) rRep
theorem op_mulU : OpR X (binaryOp .Mult) rMulU := opr_or op_mulW op_rep
def rFdU : R2 := rI CDivW fun i j => .int (i / j)
theorem op_fdivU : OpR X (binaryOp .FloorDiv) rFdU := op_fdivW
def rMdU : R2 := rI (fun _ j => 0 < j) fun i j => .int (i % j)
theorem op_modU : OpR X (binaryOp .Mod) rMdU := op_mod
def rEqU (K : PySem.W.Frag) : R2 := rOr rEq (rEqD K)
def rNeU (K : PySem.W.Frag) : R2 := rOr rNe (rNeD K)
theorem op_eqU (hu : X.A.units + 64 < cLine) : OpR X (compareOp .Eq) (rEqU X.K) := opr_or op_eq (op_eqD hu)
theorem op_neU (hu : X.A.units + 64 < cLine) : OpR X (compareOp .NotEq) (rNeU X.K) := opr_or op_ne (op_neD hu)
theorem ix_U : IxR X (rIx X.K) := ix_seq
end
section
variable {σ : L2.St} {H : Hp} {Q : VK} {K : PySem.W.Frag} {v x y : V} {i j : Int}
theorem i_add_i (q : Q (.int (i + j)) H) : rAddU (.int i) (.int j) H Q := .inl ⟨i, j, rfl, rfl, q⟩
theorem i_add_s {a b : Str} (h : a.length + b.length ≤ sizeLine) (q : Q (.str (a ++ b)) H) : rAddU (.str a) (.str b) H Q := .inr (.inl ⟨a, b, rfl, rfl, h, q⟩)
theorem i_sub_i (q : Q (.int (i - j)) H) : rSubU (.int i) (.int j) H Q := ⟨i, j, rfl, rfl, q⟩
theorem i_mul_i (h : CMulW i j) (q : Q (.int (i * j)) H) : rMulU (.int i) (.int j) H Q := .inl ⟨i, j, rfl, rfl, h, q⟩
theorem i_fd_i (h : CDivW i j) (q : Q (.int (i / j)) H) : rFdU (.int i) (.int j) H Q := ⟨i, j, rfl, rfl, h, q⟩
theorem i_md_i (h : 0 < j) (q : Q (.int (i % j)) H) : rMdU (.int i) (.int j) H Q := ⟨i, j, rfl, rfl, h, q⟩
theorem i_eq_s (h : scal x y = true) (q : Q (.bl (decide (x = y))) H) : rEqU K x y H Q := .inl ⟨h, q⟩
theorem i_ne_s (h : scal x y = true) (q : Q (.bl (!decide (x = y))) H) : rNeU K x y H Q := .inl ⟨h, q⟩
theorem i_ix_l {p : Addr} {xs : List V} (h : H p = some (.lst xs)) (ha : atI xs i = some v) (q : Q v H) : rIx K (.ref p) (.int i) H Q := .inl ⟨p, xs, i, v, rfl, rfl, SqL.of h, ha, q⟩
theorem i_ix_L {p : Addr} {xs : List V} (h : SqL K H p xs) (ha : atI xs i = some v) (q : Q v H) : rIx K (.ref p) (.int i) H Q := .inl ⟨p, xs, i, v, rfl, rfl, h, ha, q⟩
theorem i_ix_t {p : Addr} {xs : List V} (h : H p = some (.tup xs)) (ha : atI xs i = some v) (q : Q v H) : rIx K (.ref p) (.int i) H Q := .inr (.inl ⟨p, xs, i, v, rfl, rfl, SqT.of h, ha, q⟩)
end
end Ly

/-! Operators of own classes, static methods, keywords. -/
namespace Ly
open PySem PySem.Spec PyProof.Rows L2

/-! ### a def run where a special method is wanted -/
theorem rel_ni {v : V} {u : Value} (r : RelV v u) : u ≠ .notImplemented := by
  intro z
  subst z
  cases v <;> first | (cases r; done) | (obtain ⟨_, q⟩ := r; exact Value.noConfusion q)
theorem cmpback {X : Cx} {pins : List (Addr × Obj)} {σ : L2.St} {Q : VK} {t : Sem Value} {A : Around} {s : Shared} (h : wpAny (model X.prog X.w) A t (EP X pins σ Q) X.xe s) :
    wpAny (model X.prog X.w) A t (PySem.W.CmpBack (EP X pins σ Q)) X.xe s := by
  refine wpAny_mono h (fun u s' q => ?_) fun _ _ e => e
  obtain ⟨v, H', I, r, q⟩ := q
  have n := rel_ni r
  cases u <;> first | exact (n rfl).elim | exact ⟨v, H', I, r, q⟩

section
variable {X : Cx} {C f : Addr} {fd : FuncData} {ps : List Str} {sp : Sp} {k : Nat} {op : Operator}
/-- both of one own class -/
def rOwn2 (C : Addr) (sp : Sp) : R2 := fun x y H Q => ∃ a b dx dy fs gs, x = .ref a ∧ y = .ref b ∧ H a = some (.ins C dx fs) ∧ H b = some (.ins C dy gs) ∧ sp [x, y] H Q E0
theorem op_own2 (F : FnOk X.prog X.w X.K X.mg X.base CX0 k f fd ps sp) (hr : Room k X.A) (hb : Binds X.K fd ps []) (hs : PySem.W.findIn X.K (.ref C) (PySem.dunder op.info.2) = some (some (.ref f)))
    (hf : PySem.W.isFn X.K (.ref f) = true) (hc : PySem.W.selfFirst X.K C = true) : OpR X (binaryOp op) (rOwn2 C sp) := by
  intro pins s σ H x y v u Q I rx ry q
  obtain ⟨a, b, dx, dy, fs, gs, rfl, rfl, ha, hb', q⟩ := q
  cases rx
  cases ry
  obtain ⟨mA, J, _⟩ := ins_get I.hok ha
  obtain ⟨mB, J', _⟩ := ins_get I.hok hb'
  obtain ⟨od, J, _⟩ := J.look
  obtain ⟨od', J', _⟩ := J'.look
  obtain ⟨m, hF⟩ := I.fr
  exact PySem.W.binop_K hF I.ok.mod.kin J J'.type hc hs hf (cmpback (run_fn (us := [.ref a, .ref b]) (vs := [.ref a, .ref b]) F hr hb .nil pass0 I (.cons rfl (.cons rfl .nil)) q))
/-- own op int -/
def rOwnI (C : Addr) (sp : Sp) : R2 := fun x y H Q => ∃ a i dx fs, x = .ref a ∧ y = .int i ∧ H a = some (.ins C dx fs) ∧ sp [x, y] H Q E0
theorem op_ownI {fo ro rc : Option Value} (F : FnOk X.prog X.w X.K X.mg X.base CX0 k f fd ps sp) (hr : Room k X.A) (hb : Binds X.K fd ps []) (hs : PySem.W.findIn X.K (.ref C) (PySem.dunder op.info.2) = some (some (.ref f)))
    (hf : PySem.W.isFn X.K (.ref f) = true) (hc : PySem.W.selfFirst X.K C = true) (hrc : PySem.W.findIn X.K (.ref C) (dunderR op.info.2) = some rc) (hp : rc = none ∨ ∃ g : Addr, rc = some (.ref g))
    (h1 : PySem.W.findIn X.K (.type "int") (PySem.dunder op.info.2) = some fo) (h2 : PySem.W.findIn X.K (.type "int") (dunderR op.info.2) = some ro) (hsub : PySem.W.subIn X.K (.type "int") (.ref C) = some false) : OpR X (binaryOp op) (rOwnI C sp) := by
  intro pins s σ H x y v u Q I rx ry q
  obtain ⟨a, i, dx, fs, rfl, rfl, ha, q⟩ := q
  cases rx
  obtain ⟨t, rfl⟩ := ry
  obtain ⟨mA, J, _⟩ := ins_get I.hok ha
  obtain ⟨od, J, _⟩ := J.look
  obtain ⟨m, hF⟩ := I.fr
  exact PySem.W.ksp_binT (T := "int") hF I.ok.mod.kin J rfl hc hs hf hrc hp h1 h2 hsub (cmpback (run_fn (us := [.ref a, .int i t]) (vs := [.ref a, .int i]) F hr hb .nil pass0 I (.cons rfl (.cons ⟨t, rfl⟩ .nil)) q))
/-- - own -/
def uOwn (C : Addr) (sp : Sp) : V → Hp → VK → Prop := fun x H Q => ∃ a dx fs, x = .ref a ∧ H a = some (.ins C dx fs) ∧ sp [x] H Q E0
theorem un_own (F : FnOk X.prog X.w X.K X.mg X.base CX0 k f fd ps sp) (hr : Room k X.A) (hb : Binds X.K fd ps []) (hs : PySem.W.findIn X.K (.ref C) "__neg__" = some (some (.ref f)))
    (hf : PySem.W.isFn X.K (.ref f) = true) : UnR X (unaryOp .USub) (uOwn C sp) := by
  intro pins s σ H x v Q I rx q
  obtain ⟨a, dx, fs, rfl, ha, q⟩ := q
  cases rx
  obtain ⟨mA, J, _⟩ := ins_get I.hok ha
  obtain ⟨od, J, _⟩ := J.look
  obtain ⟨m, hF⟩ := I.fr
  exact PySem.W.ksp_neg hF I.ok.mod.kin J hs hf (run_fn (us := [.ref a]) (vs := [.ref a]) F hr hb .nil pass0 I (.cons rfl .nil) q)
end

/-! ### int op own: the reflected method -/
section
open PySem.W PySem.Calls
variable {M : Model} {A : Around} {E : Value → Shared → Prop} {s : Shared} {Q : Fin → Shared → Prop}
theorem asInt_inst {y C dx : Addr} {Q : Option Int → Shared → Prop} (ho : s.heap.get? y = some (instObj C dx)) (q : Q none s) : wpAny M A (asInt? (.ref y)) Q E s := by
  unfold asInt?
  refine wpAny_bind (wpAny_load ho ?_)
  exact wpAny_pure q
theorem bin_ni {nm : String} {f : Int → Int → Sem Fin} {i : Int} {t : Tok} {y C dx : Addr} (ho : s.heap.get? y = some (instObj C dx)) (q : Q (.done (.ret .notImplemented)) s) :
    wpAny M A (Builtin.Int.intBinary nm f false ⟨[.int i t, .ref y], []⟩) Q E s := by
  unfold Builtin.Int.intBinary
  refine wpAny_bind (m := slotArgs nm 1 ⟨[.int i t, .ref y], []⟩) ?_
  have e : slotArgs nm 1 ⟨[.int i t, .ref y], []⟩ = pure (.int i t, [.ref y]) := by
    first | rfl | kernel_rfl
  rw [e]
  refine wpAny_pure ?_
  refine wpAny_bind ?_
  unfold Builtin.Int.intOfSelf
  refine wpAny_bind (m := asInt? (.int i t)) (wpAny_pure (wpAny_pure ?_))
  refine wpAny_bind (asInt_inst ho ?_)
  refine wpAny_bind (wpAny_rule ?_)
  exact wpAny_pure q
end
/-- an int's own operator, and that it declines an instance -/
structure IntOp (nm : String) (id : String) (B : Builtin) : Prop where
  slot : Slot "int" (PySem.dunder nm) id
  entry : entryFor table id = some B
  args : ∀ a b, argsOk id ⟨[a, b], []⟩
  ni : ∀ {M : Model} {A : Around} {E : Value → Shared → Prop} {s : Shared} {Q : Fin → Shared → Prop} {i : Int} {t : Tok} {y C dx : Addr}, s.heap.get? y = some (PySem.W.instObj C dx) → Q (.done (.ret .notImplemented)) s →
    wpAny M A (B ⟨[.int i t, .ref y], []⟩) Q E s
theorem io_add : IntOp "add" "int.__add__" Builtin.«int.__add__» := ⟨F.slot_int_add, F.entry_int_add, F.args_int_add_2, fun ho q => by
  unfold Builtin.«int.__add__»
  exact bin_ni ho q⟩
theorem io_sub : IntOp "sub" "int.__sub__" Builtin.«int.__sub__» := ⟨F.slot_int_sub, F.entry_int_sub, F.args_int_sub_2, fun ho q => by
  unfold Builtin.«int.__sub__»
  exact bin_ni ho q⟩
theorem io_mul : IntOp "mul" "int.__mul__" Builtin.«int.__mul__» := ⟨F.slot_int_mul, F.entry_int_mul, F.args_int_mul_2, fun ho q => by
  unfold Builtin.«int.__mul__»
  exact bin_ni ho q⟩
theorem io_mod : IntOp "mod" "int.__mod__" Builtin.«int.__mod__» := ⟨F.slot_int_mod, F.entry_int_mod, F.args_int_mod_2, fun ho q => by
  unfold Builtin.«int.__mod__»
  exact bin_ni ho q⟩
theorem io_fd : IntOp "floordiv" "int.__floordiv__" Builtin.«int.__floordiv__» := ⟨F.slot_int_floordiv, F.entry_int_floordiv, F.args_int_floordiv_2, fun {M A E s Q i t y C dx} ho q => by
  unfold Builtin.«int.__floordiv__» Builtin.exactOperandsForPylong
  refine wpAny_bind ?_
  rw [if_pos (show (({ pos := [Value.int i t, Value.ref y] } : Args).pos.any Value.onHeap = true) from rfl)]
  refine wpAny_bind (m := asInt? (.int i t)) (wpAny_pure (wpAny_bind (asInt_inst ho (wpAny_pure ?_))))
  exact bin_ni ho q⟩

section
open PySem.W
variable {X : Cx} {C f : Addr} {fd : FuncData} {ps : List Str} {sp : Sp} {k : Nat} {op : Operator}
def rIOwn (C : Addr) (sp : Sp) : R2 := fun x y H Q => ∃ a i dx fs, x = .int i ∧ y = .ref a ∧ H a = some (.ins C dx fs) ∧ sp [y, x] H Q E0
theorem op_Iown {id : String} {B : Builtin} {fo ro : Option Value} (io : IntOp op.info.2 id B) (F : FnOk X.prog X.w X.K X.mg X.base CX0 k f fd ps sp) (hr : Room k X.A) (hb : Binds X.K fd ps []) (hs : PySem.W.findIn X.K (.ref C) (dunderR op.info.2) = some (some (.ref f)))
    (hf : PySem.W.isFn X.K (.ref f) = true) (hc : PySem.W.selfFirst X.K C = true) {g : Addr} (hl : PySem.W.findIn X.K (.ref C) (PySem.dunder op.info.2) = some (some (.ref g)))
    (h1 : PySem.W.findIn X.K (.type "int") (PySem.dunder op.info.2) = some fo) (h2 : PySem.W.findIn X.K (.type "int") (dunderR op.info.2) = some ro) (h12 : ((fo.isSome && !isSeqSlot fo) || (ro.isSome && !isSeqSlot ro)) = true)
    (hsub : PySem.W.subIn X.K (.ref C) (.type "int") = some false) : OpR X (binaryOp op) (rIOwn C sp) := by
  intro pins s σ H x y v u Q I rx ry q
  obtain ⟨a, i, dx, fs, rfl, rfl, ha, q⟩ := q
  cases ry
  obtain ⟨t, rfl⟩ := rx
  obtain ⟨mA, J, _⟩ := ins_get I.hok ha
  have hinst : s.heap.get? a = some (instObj C dx) := by
    obtain ⟨_, _, _, e, _⟩ := (show ObjOk X.prog X.w H s.heap a (.ins C dx fs) from I.hok a _ ha)
    exact e
  obtain ⟨od, J, _⟩ := J.look
  obtain ⟨m, hF⟩ := I.fr
  have KX := I.kIn
  obtain ⟨cd, rest, hcd, hm⟩ := ksp_first hc
  rcases hi : op.info with ⟨sym, nm'⟩
  rw [hi] at hs h1 h2 hl io
  dsimp only at hs h1 h2 hl io
  have one := ksp_try (E := X.xe) (M := model X.prog X.w) KX J hs hf (cmpback (run_fn (us := [.ref a, .int i t]) (vs := [.ref a, .int i]) F hr hb .nil pass0 I (.cons rfl (.cons ⟨t, rfl⟩ .nil)) q))
  obtain ⟨hh, gg, d, tt, os⟩ := s
  have L1 : Looks (model X.prog X.w) hh (typeOf (.int i t)) (.type "int") := Looks.of_pure rfl
  have L2 : Looks (model X.prog X.w) hh (typeOf (.ref a)) (.ref C) := J.type
  have L3 : Looks (model X.prog X.w) hh (fillsNumberSlot (.type "int") nm') true := by
    have z := ksp_fillsT (M := model X.prog X.w) KX h1 h2
    rw [h12] at z
    exact z
  have L4 : Looks (model X.prog X.w) hh (fillsNumberSlot (.ref C) nm') true := fills_K KX hcd hm hl
  have L5 : Looks (model X.prog X.w) hh (isSubtype (.ref C) (.type "int")) false := looks_subIn KX hsub
  have L6 : Looks (model X.prog X.w) hh (numberSlotInPython (.type "int") nm') false := Looks.of_pure rfl
  have hne : (Value.type "int" == Value.ref C) = false := Bool.eq_false_iff.mpr fun q => by cases beq_iff_eq.mp q
  have two : wpAny (model X.prog X.w) X.A (tryMethod (.int i t) (PySem.dunder nm') (.ref a)) (fun r s' => r = none ∧ s' = ⟨hh, gg, d, tt, os⟩) X.xe ⟨hh, gg, d, tt, os⟩ := by
    refine wpAny_tryMethod_declines (typeIs_int _ i t) io.slot ?_
    refine GQ.call_here io.slot (typeIs_int _ i t) io.entry (io.args _ _) ?_
    exact io.ni hinst ⟨rfl, rfl, rfl⟩
  simp only [binaryOp, hi]
  refine wpAny_holding (wpAny_bind ?_)
  unfold binaryOp1
  refine wpAny_bind (L1.at (wpAny_bind (L2.at (wpAny_bind (L3.at ?_)))))
  simp only [hne, Bool.false_eq_true, if_false]
  ksp_lk
  refine wpAny_mono two (fun r s' hr' => ?_) fun _ _ e => e
  obtain ⟨rfl, rfl⟩ := hr'
  ksp_lk
  refine wpAny_mono one (fun r s' hr' => ?_) fun _ _ e => e
  obtain ⟨v, rfl, hq⟩ := hr'
  ksp_lk
  exact hq
end

/-! ### abs, str, repr of an instance by its own method -/
section
open PySem.W PySem.Calls
variable {X : Cx} {C f : Addr} {fd : FuncData} {ps : List Str} {sp : Sp} {k : Nat}
/-- a def run somewhere below the running body -/
theorem run_at {pins : List (Addr × Obj)} {σ : L2.St} {H : Hp} {s : Shared} {Q : VK} {us : List Value} {vs : List V} {A' : Around} {E' : Value → Shared → Prop} (F : FnOk X.prog X.w X.K X.mg X.base CX0 k f fd ps sp) (hr : Room k A') (hfr : A'.frames = X.A.frames) (hb : Binds X.K fd ps [])
    (I : Inv X pins σ H s) (r : Vals vs us) (h : sp vs H Q E0) : wpAny (model X.prog X.w) A' (call (.ref f) us) (EP X pins σ Q) E' s := by
  have e0 : Env0 X.prog X.w X.K X.mg X.base A' X.stack s H := by
    have e := I.env0
    exact ⟨by rw [hfr]; exact e.frames, e.mod, e.bs, e.bsz, e.funs, e.frf, e.hok, e.bare⟩
  have hl : (us ++ []).length = ps.length := by
    rw [List.append_nil, ← r.length]
    exact F.len _ _ _ _ h
  refine wpAny_call (codeAny_mono (F.run A' X.stack s H ⟨us, []⟩ us vs Q E0 hr e0 (by
    have z := hb s us I.kIn hl
    rw [List.append_nil] at z
    exact z) r h) fun r s' hq => ?_)
  cases r with
  | error e => exact False.elim hq
  | ok fl =>
    cases fl with
    | ret u => exact I.after hq
    | next => exact False.elim hq
    | brk => exact False.elim hq
    | cont => exact False.elim hq

def rCOwn (C : Addr) (sp : Sp) : List V → Hp → VK → Prop := fun xs H Q => ∃ a dx fs, xs = [.ref a] ∧ H a = some (.ins C dx fs) ∧ sp [.ref a] H Q E0
theorem call_abs_own (F : FnOk X.prog X.w X.K X.mg X.base CX0 k f fd ps sp) (hr : Room (k + 1) X.A) (hb : Binds X.K fd ps []) (hs : PySem.W.findIn X.K (.ref C) "__abs__" = some (some (.ref f)))
    (hf : PySem.W.isFn X.K (.ref f) = true) : CallR X (.builtin "abs") (rCOwn C sp) := by
  intro pins s σ H xs us Q I r q
  obtain ⟨a, dx, fs, rfl, ha, q⟩ := q
  obtain ⟨u, rfl, ru⟩ := vals1 r
  cases ru
  obtain ⟨mA, J, _⟩ := ins_get I.hok ha
  obtain ⟨od, J, _⟩ := J.look
  refine call_function_entry kind_abs plain_abs entry_abs (args_abs _) ?_
  unfold Builtin.«abs»
  refine wpAny_bind (m := oneArg "abs" _) (wpAny_pure ?_)
  refine wpAny_bind (m := callSpecial? (.ref a) (Str.ofString "__abs__")) (special_fn I.kIn J hs (beq_iff_eq.mp hf) ?_)
  refine wpAny_mono (run_at (us := [.ref a]) (vs := [.ref a]) F hr.in1 rfl hb I (.cons rfl .nil) q) (fun v s' hv => ?_) fun _ _ e => e
  exact wpAny_pure ⟨v, rfl, hv⟩

theorem meetsIn_str_new {prog : Program} {w : World} {v : Value} : MeetsIn prog w (Builtin.«str.__new__» ⟨[.type "str", v], []⟩)
    (fun A R s => wpAny (model prog w) A.in1 (Builtin.Str.strOf v) (fun r s' => R (.ok (.ret r)) s') (fun e s' => R (.error e) s') s) := by
  refine MeetsIn.of_wp fun A R s h => ?_
  rw [str_new_tree v]
  refine wpAny_bind (wpAny_pure ?_)
  refine wpAny_bind (wpAny_of_eq isSubtype_str_str ?_)
  exact wpAny_bind (wpAny_mono h (fun r s' h' => wpAny_pure ⟨_, rfl, h'⟩) fun _ _ e => e)
theorem room_in1s {k : Nat} {A : Around} (r : Room (k + 2) A) : Room k A.in1.in1 := r.in1.in1
theorem call_str_own (F : FnOk X.prog X.w X.K X.mg X.base CX0 k f fd ps sp) (hr : Room (k + 3) X.A) (hb : Binds X.K fd ps []) (hs : PySem.W.findIn X.K (.ref C) "__str__" = some (some (.ref f)))
    (hf : PySem.W.isFn X.K (.ref f) = true) : CallR X (.type "str") (fun xs H Q => ∃ a dx fs, xs = [.ref a] ∧ H a = some (.ins C dx fs) ∧ sp [.ref a] H (fun v H' => (∃ z, v = .str z) ∧ Q v H') E0) := by
  intro pins s σ H xs us Q I r q
  obtain ⟨a, dx, fs, rfl, ha, q⟩ := q
  obtain ⟨u, rfl, ru⟩ := vals1 r
  cases ru
  obtain ⟨mA, J, _⟩ := ins_get I.hok ha
  obtain ⟨od, J, _⟩ := J.look
  refine callType_newIn PySem.F.called_str (by decide) (PySem.F.typeCall_str_1 _) (PySem.F.newCall_str_1 _) (fun obj => PySem.F.args_object_init_2 obj _) PySem.F.entry_str_new meetsIn_str_new ?_
  show wpAny (model X.prog X.w) X.A.in1.in1 (Builtin.Str.strOf (.ref a)) _ _ s
  unfold Builtin.Str.strOf
  rw [if_neg (show ¬ Builtin.Str.isExactStr (Value.ref a) = true from Bool.false_ne_true)]
  refine wpAny_bind (wpAny_cRoomFor (room_in1s hr).units0 ?_)
  refine wpAny_bind (m := callSpecial? (.ref a) (Str.ofString "__str__")) (special_fn I.kIn J hs (beq_iff_eq.mp hf) ?_)
  refine wpAny_mono (run_at (us := [.ref a]) (vs := [.ref a]) F ((room_in1s hr).mono (Nat.le_succ k)) rfl hb I (.cons rfl .nil) q) (fun v s' hv => ?_) fun _ _ e => e
  obtain ⟨v0, H', I', rv, ⟨z, rfl⟩, qv⟩ := hv
  obtain ⟨tk, rfl⟩ := rv
  refine wpAny_bind (m := asStr? (.str z tk)) (wpAny_pure ?_)
  exact wpAny_pure ⟨typeIs_str _ _ _, ⟨.str z, H', I', ⟨tk, rfl⟩, qv⟩⟩
def rSOwn (C : Addr) (sp : Sp) : List V → Hp → VK → Prop := fun xs H Q => ∃ a dx fs, xs = [.ref a] ∧ H a = some (.ins C dx fs) ∧ sp [.ref a] H (fun v H' => (∃ z, v = .str z) ∧ Q v H') E0
theorem call_repr_own (F : FnOk X.prog X.w X.K X.mg X.base CX0 k f fd ps sp) (hr : Room (k + 2) X.A) (hb : Binds X.K fd ps []) (hs : PySem.W.findIn X.K (.ref C) "__repr__" = some (some (.ref f)))
    (hf : PySem.W.isFn X.K (.ref f) = true) : CallR X (.builtin "repr") (rSOwn C sp) := by
  intro pins s σ H xs us Q I r q
  obtain ⟨a, dx, fs, rfl, ha, q⟩ := q
  obtain ⟨u, rfl, ru⟩ := vals1 r
  cases ru
  obtain ⟨mA, J, _⟩ := ins_get I.hok ha
  obtain ⟨od, J, _⟩ := J.look
  obtain ⟨m, hF⟩ := I.fr
  refine repr_K (show X.A.in1.units < cLine from (show Room (k + 1) X.A.in1 from hr.in1).units0) hF I.ok.mod.kin J hs hf ?_
  refine wpAny_mono (run_at (us := [.ref a]) (vs := [.ref a]) F ((show Room (k + 1) X.A.in1 from hr.in1).mono (Nat.le_succ k)) rfl hb I (.cons rfl .nil) q) (fun v s' hv => ?_) fun _ _ e => e
  obtain ⟨v0, H', I', rv, ⟨z, rfl⟩, qv⟩ := hv
  obtain ⟨tk, rfl⟩ := rv
  exact ⟨.str z, H', I', ⟨tk, rfl⟩, qv⟩
end

/-! ### == and != by an own __eq__ -/
theorem ne_slot : Slot "object" "__ne__" "object.__ne__" :=
  .of (owner := "object") (n := "__ne__") (by rw [typeLookup_type, builtinLookup_eq_fast]; kernel_rfl) (by decide +kernel) (by decide +kernel) (by decide +kernel) (.inl (by decide +kernel)) (by rw [isSubtype_type]; kernel_rfl)
section
open PySem.W PySem.Calls
variable {X : Cx} {C f : Addr} {fd : FuncData} {ps : List Str} {sp : Sp} {k : Nat}
theorem ifBound_bi {K : PySem.W.Frag} {M : Model} {A : Around} {E : Value → Shared → Prop} {s : Shared} {x : Addr} {ox : Obj} {od : Option Obj} {name : Str} {id : String} {args : List Value} {Q : Option Value → Shared → Prop} (KX : K.In s.heap) (J : InstAt s.heap x ox C od)
    (hs : findIn K (.ref C) name = some (some (.builtin id))) (hb : ∀ self, bindSpecial (.builtin id) self = pure (.builtin id, [self]))
    (h : wpAny M A (call (.builtin id) (.ref x :: args)) (fun v => Q (some v)) E s) : wpAny M A (callSpecialIfBound? (.ref x) name args) Q E s := by
  simp only [callSpecialIfBound?, bindSpecialIfBound?]
  refine wpAny_holding (wpAny_bind (wpAny_bind (wpAny_bind (J.type.here ((looks_findIn KX hs).here ?_)))))
  simp only [hb]
  refine wpAny_bind (wpAny_askSetting (wpAny_ite ?_))
  have fin : wpAny M A (call (.builtin id) ([.ref x] ++ args) >>= fun v => pure (some v)) Q E s := wpAny_bind (wpAny_mono h (fun v s' h' => wpAny_pure h') fun _ _ h' => h')
  split
  · exact wpAny_bind (wpAny_pure (wpAny_pure fin))
  · exact wpAny_tryCatch (wpAny_bind (wpAny_pure (wpAny_pure fin)))

/-- what an own == is asked: a bool comes back -/
abbrev bq (g : Bool → Bool) (Q : VK) : VK := fun v H' => ∃ b, v = .bl b ∧ Q (.bl (g b)) H'
theorem ne_run {A' : Around} {E' : Value → Shared → Prop} {pins : List (Addr × Obj)} {σ : L2.St} {H : Hp} {s : Shared} {Q : VK} {a dx : Addr} {fs : List (Str × V)} {y : V} {u : Value} (F : FnOk X.prog X.w X.K X.mg X.base CX0 k f fd ps sp) (hr : Room (k + 2) A') (hfr : A'.frames = X.A.frames) (hb : Binds X.K fd ps [])
    (hs : findIn X.K (.ref C) "__eq__" = some (some (.ref f))) (hf : isFn X.K (.ref f) = true) (hob : subIn X.K (.ref C) (.type "object") = some true)
    (I : Inv X pins σ H s) (ha : H a = some (.ins C dx fs)) (ry : RelV y u) (q : sp [.ref a, y] H (bq not Q) E0) :
    wpAny (model X.prog X.w) A' (call (.builtin "object.__ne__") [.ref a, u]) (fun v s' => v ≠ .notImplemented ∧ EP X pins σ Q v s') E' s := by
  obtain ⟨mA, J, _⟩ := ins_get I.hok ha
  obtain ⟨od, J, _⟩ := J.look
  have KX := I.kIn
  obtain ⟨m, hF⟩ := I.fr
  have sub : Looks (model X.prog X.w) s.heap (isInstance (.ref a) (.type "object")) true := J.type.andThen (looks_subIn KX hob)
  refine wpAny_call (codeAny_call_builtin ne_slot.plain PySem.F.cmpEntry_ne (W.check_slot PySem.F.cmpKind_ne PySem.F.cmpSplit_ne sub (PySem.F.cmpArgs_ne _ _) ?_))
  unfold Builtin.«object.__ne__»
  refine wpAny_bind (m := slotArgs "__ne__" 1 ⟨[.ref a, u], []⟩) ?_
  rw [show slotArgs "__ne__" 1 ⟨[.ref a, u], []⟩ = pure (.ref a, [u]) by first | rfl | kernel_rfl]
  refine wpAny_pure ?_
  refine wpAny_bind (wpAny_cRoomFor (show A'.in1.units < cLine from (show Room (k + 1) A'.in1 from hr.in1).units0) ?_)
  refine wpAny_bind (m := callSpecialIfBound? (.ref a) (Str.ofString "__eq__") [u]) (ifBound_K KX J hs hf ?_)
  refine wpAny_mono (run_at (us := [.ref a, u]) (vs := [.ref a, y]) F ((show Room (k + 1) A'.in1 from hr.in1).mono (Nat.le_succ k)) (by exact hfr) hb I (.cons rfl (.cons ry .nil)) q) (fun v s' hv => ?_) fun _ _ e => e
  obtain ⟨v0, H', I', rv, b, rfl, qv⟩ := hv
  cases rv
  refine wpAny_bind (wpAny_truthy_bool ?_)
  exact wpAny_pure ⟨(fun z => nomatch z), .bl (!b), H', I', rfl, qv⟩

/-- own == anything whose type is not below the class -/
def rEqOwn (C : Addr) (sp : Sp) : R2 := fun x y H Q => ∃ a dx fs, x = .ref a ∧ H a = some (.ins C dx fs) ∧ ((∃ b dy gs, y = .ref b ∧ H b = some (.ins C dy gs)) ∨ ∃ i, y = .int i) ∧ sp [x, y] H Q E0
theorem op_eq_own (F : FnOk X.prog X.w X.K X.mg X.base CX0 k f fd ps sp) (hr : Room k X.A) (hb : Binds X.K fd ps []) (hs : findIn X.K (.ref C) "__eq__" = some (some (.ref f))) (hf : isFn X.K (.ref f) = true)
    (hn : notFirst X.K C (.type "int") = true) : OpR X (compareOp .Eq) (rEqOwn C sp) := by
  intro pins s σ H x y v u Q I rx ry q
  obtain ⟨a, dx, fs, rfl, ha, hy, q⟩ := q
  cases rx
  obtain ⟨mA, J, _⟩ := ins_get I.hok ha
  obtain ⟨od, J, _⟩ := J.look
  obtain ⟨m, hF⟩ := I.fr
  have body := cmpback (run_fn (us := [.ref a, u]) (vs := [.ref a, y]) (Q := Q) F hr hb .nil pass0 I (.cons rfl (.cons ry .nil)) q)
  rcases hy with ⟨b, dy, gs, rfl, hb'⟩ | ⟨i, rfl⟩
  · cases ry
    obtain ⟨mB, J', _⟩ := ins_get I.hok hb'
    obtain ⟨od', J', _⟩ := J'.look
    exact PySem.W.cmp_K (op := .Eq) (tb := .ref C) hr.units0 hF I.ok.mod.kin J J'.type (by simp [PySem.W.notFirst]) hs hf body
  · obtain ⟨t, rfl⟩ := ry
    exact PySem.W.cmp_K (op := .Eq) (tb := .type "int") hr.units0 hF I.ok.mod.kin J (Looks.of_pure rfl) hn hs hf body
/-- own != own, own != int -/
def rNeOwn (C : Addr) (sp : Sp) : R2 := fun x y H Q => ∃ a dx fs, x = .ref a ∧ H a = some (.ins C dx fs) ∧ ((∃ b dy gs, y = .ref b ∧ H b = some (.ins C dy gs)) ∨ ∃ i, y = .int i) ∧ sp [x, y] H (bq not Q) E0
theorem op_ne_own (F : FnOk X.prog X.w X.K X.mg X.base CX0 k f fd ps sp) (hr : Room (k + 3) X.A) (hb : Binds X.K fd ps []) (hs : findIn X.K (.ref C) "__eq__" = some (some (.ref f))) (hf : isFn X.K (.ref f) = true)
    (hn : findIn X.K (.ref C) "__ne__" = some (some (.builtin "object.__ne__"))) (hob : subIn X.K (.ref C) (.type "object") = some true) (hi : subIn X.K (.type "int") (.ref C) = some false) : OpR X (compareOp .NotEq) (rNeOwn C sp) := by
  intro pins s σ H x y v u Q I rx ry q
  obtain ⟨a, dx, fs, rfl, ha, hy, q⟩ := q
  cases rx
  obtain ⟨mA, J, _⟩ := ins_get I.hok ha
  obtain ⟨od, J, _⟩ := J.look
  have KX := I.kIn
  have one : wpAny (model X.prog X.w) X.A (tryCompare (.ref a) (Str.ofString "__ne__") u) (fun r s' => ∃ v, r = some v ∧ EP X pins σ Q v s') X.xe s := by
    unfold tryCompare
    refine wpAny_bind (ifBound_bi KX J hn ne_slot.bind (wpAny_mono (ne_run (E' := X.xe) F (hr.mono (Nat.le_succ _)) rfl hb hs hf hob I ha ry q) (fun v s' hv => ?_) fun _ _ e => e))
    obtain ⟨h1, h2⟩ := hv
    cases v <;> first | exact (h1 rfl).elim | exact wpAny_pure ⟨_, rfl, h2⟩
  show wpAny _ _ (richCompare .NotEq (.ref a) u) _ _ _
  unfold richCompare
  simp only [oneThing_ref]
  refine wpAny_holding (wpAny_bind (wpAny_cRoomFor hr.units0 ?_))
  rcases hy with ⟨b, dy, gs, rfl, hb'⟩ | ⟨i, rfl⟩
  · cases ry
    obtain ⟨mB, J', _⟩ := ins_get I.hok hb'
    obtain ⟨od', J', _⟩ := J'.look
    refine wpAny_bind (J.type.here (wpAny_bind (J'.type.here ?_)))
    rw [if_neg (by simp)]
    refine wpAny_bind (wpAny_pure ?_)
    simp only [Bool.false_eq_true, if_false]
    refine wpAny_bind (wpAny_mono one (fun r s' z => ?_) fun _ _ e => e)
    obtain ⟨v, rfl, hq⟩ := z
    exact wpAny_pure hq
  · obtain ⟨t, rfl⟩ := ry
    refine wpAny_bind (J.type.here (wpAny_bind ((Looks.of_pure (M := model X.prog X.w) (h := s.heap) (t := typeOf (.int i t)) (r := Value.type "int") rfl).here ?_)))
    rw [if_pos (by simp)]
    refine wpAny_bind ((looks_subIn KX hi).here ?_)
    simp only [Bool.false_eq_true, if_false]
    refine wpAny_bind (wpAny_mono one (fun r s' z => ?_) fun _ _ e => e)
    obtain ⟨v, rfl, hq⟩ := z
    exact wpAny_pure hq
/-- int == own, int != own -/
theorem icmp_eq {M : Model} {A : Around} {E : Value → Shared → Prop} {s : Shared} {Q : Fin → Shared → Prop} {i : Int} {t : Tok} {y C dx : Addr} (ho : s.heap.get? y = some (PySem.W.instObj C dx)) (q : Q (.done (.ret .notImplemented)) s) :
    wpAny M A (Builtin.«int.__eq__» ⟨[.int i t, .ref y], []⟩) Q E s := by
  unfold Builtin.«int.__eq__»
  exact bin_ni ho q
theorem icmp_ne {M : Model} {A : Around} {E : Value → Shared → Prop} {s : Shared} {Q : Fin → Shared → Prop} {i : Int} {t : Tok} {y C dx : Addr} (ho : s.heap.get? y = some (PySem.W.instObj C dx)) (q : Q (.done (.ret .notImplemented)) s) :
    wpAny M A (Builtin.«int.__ne__» ⟨[.int i t, .ref y], []⟩) Q E s := by
  unfold Builtin.«int.__ne__»
  exact bin_ni ho q
theorem inst_of {H : Hp} {h : Heap} {P : Program} {w : World} {a C dx : Addr} {fs : List (Str × V)} (hok : HOk P w H h) (ha : H a = some (.ins C dx fs)) : h.get? a = some (instObj C dx) := by
  obtain ⟨_, _, _, e, _⟩ := (show ObjOk P w H h a (.ins C dx fs) from hok a _ ha)
  exact e
/-- int == own, int != own; the own method is asked with the sides exchanged -/
def rIEqOwn (C : Addr) (sp : Sp) (g : Bool → Bool) : R2 := fun x y H Q => ∃ a dx fs i, y = .ref a ∧ x = .int i ∧ H a = some (.ins C dx fs) ∧ sp [y, x] H (bq g Q) E0
theorem op_eq_Iown (F : FnOk X.prog X.w X.K X.mg X.base CX0 k f fd ps sp) (hr : Room k X.A) (hb : Binds X.K fd ps []) (hs : findIn X.K (.ref C) "__eq__" = some (some (.ref f))) (hf : isFn X.K (.ref f) = true)
    (hi : subIn X.K (.ref C) (.type "int") = some false) : OpR X (compareOp .Eq) (rIEqOwn C sp id) := by
  intro pins s σ H x y v u Q I rx ry q
  obtain ⟨a, dx, fs, i, rfl, rfl, ha, q⟩ := q
  cases ry
  obtain ⟨t, rfl⟩ := rx
  obtain ⟨mA, J, _⟩ := ins_get I.hok ha
  obtain ⟨od, J, _⟩ := J.look
  have KX := I.kIn
  have one : wpAny (model X.prog X.w) X.A (tryCompare (.int i t) (Str.ofString "__eq__") (.ref a)) (fun r s' => r = none ∧ s' = s) X.xe s :=
    wpAny_tryCompare_declines (typeIs_int _ i t) PySem.F.slot_int_eq (GQ.call_here PySem.F.slot_int_eq (typeIs_int _ i t) PySem.F.entry_int_eq (PySem.F.args_int_eq_2 _ _) (icmp_eq (inst_of I.hok ha) ⟨rfl, rfl, rfl⟩))
  have two : wpAny (model X.prog X.w) X.A (tryCompare (.ref a) (Str.ofString "__eq__") (.int i t)) (fun r s' => ∃ v, r = some v ∧ EP X pins σ Q v s') X.xe s := by
    unfold tryCompare
    refine wpAny_bind (ifBound_K KX J hs hf (wpAny_mono (run_fn (us := [.ref a, .int i t]) (vs := [.ref a, .int i]) F hr hb .nil pass0 I (.cons rfl (.cons ⟨t, rfl⟩ .nil)) q) (fun v s' hv => ?_) fun _ _ e => e))
    obtain ⟨v0, H', I', rv, b, rfl, qv⟩ := hv
    cases rv
    exact wpAny_pure ⟨_, rfl, .bl b, H', I', rfl, qv⟩
  show wpAny _ _ (richCompare .Eq (.int i t) (.ref a)) _ _ _
  unfold richCompare
  refine wpAny_holding (wpAny_bind (wpAny_cRoomFor hr.units0 ?_))
  rw [show oneThing? CmpOp.Eq (.int i t) (.ref a) = none from rfl]
  refine wpAny_bind ((Looks.of_pure (M := model X.prog X.w) (h := s.heap) (t := typeOf (.int i t)) (r := Value.type "int") rfl).here (wpAny_bind (J.type.here ?_)))
  rw [if_pos (by simp)]
  refine wpAny_bind ((looks_subIn KX hi).here ?_)
  simp only [Bool.false_eq_true, if_false, Bool.not_false, if_true]
  refine wpAny_bind (wpAny_mono one (fun r s' z => ?_) fun _ _ e => e)
  obtain ⟨rfl, rfl⟩ := z
  refine wpAny_bind (wpAny_mono two (fun r s' z => ?_) fun _ _ e => e)
  obtain ⟨v, rfl, hq⟩ := z
  exact wpAny_pure hq
theorem op_ne_Iown (F : FnOk X.prog X.w X.K X.mg X.base CX0 k f fd ps sp) (hr : Room (k + 3) X.A) (hb : Binds X.K fd ps []) (hs : findIn X.K (.ref C) "__eq__" = some (some (.ref f))) (hf : isFn X.K (.ref f) = true)
    (hn : findIn X.K (.ref C) "__ne__" = some (some (.builtin "object.__ne__"))) (hob : subIn X.K (.ref C) (.type "object") = some true) (hi : subIn X.K (.ref C) (.type "int") = some false) : OpR X (compareOp .NotEq) (rIEqOwn C sp not) := by
  intro pins s σ H x y v u Q I rx ry q
  obtain ⟨a, dx, fs, i, rfl, rfl, ha, q⟩ := q
  cases ry
  obtain ⟨t, rfl⟩ := rx
  obtain ⟨mA, J, _⟩ := ins_get I.hok ha
  obtain ⟨od, J, _⟩ := J.look
  have KX := I.kIn
  have one : wpAny (model X.prog X.w) X.A (tryCompare (.int i t) (Str.ofString "__ne__") (.ref a)) (fun r s' => r = none ∧ s' = s) X.xe s :=
    wpAny_tryCompare_declines (typeIs_int _ i t) PySem.F.slot_int_ne (GQ.call_here PySem.F.slot_int_ne (typeIs_int _ i t) PySem.F.entry_int_ne (PySem.F.args_int_ne_2 _ _) (icmp_ne (inst_of I.hok ha) ⟨rfl, rfl, rfl⟩))
  have two : wpAny (model X.prog X.w) X.A (tryCompare (.ref a) (Str.ofString "__ne__") (.int i t)) (fun r s' => ∃ v, r = some v ∧ EP X pins σ Q v s') X.xe s := by
    unfold tryCompare
    refine wpAny_bind (ifBound_bi KX J hn ne_slot.bind (wpAny_mono (ne_run (E' := X.xe) (y := .int i) F (hr.mono (Nat.le_succ _)) rfl hb hs hf hob I ha (show RelV (.int i) (.int i t) from ⟨t, rfl⟩) q) (fun v s' hv => ?_) fun _ _ e => e))
    obtain ⟨h1, h2⟩ := hv
    cases v <;> first | exact (h1 rfl).elim | exact wpAny_pure ⟨_, rfl, h2⟩
  show wpAny _ _ (richCompare .NotEq (.int i t) (.ref a)) _ _ _
  unfold richCompare
  refine wpAny_holding (wpAny_bind (wpAny_cRoomFor hr.units0 ?_))
  rw [show oneThing? CmpOp.NotEq (.int i t) (.ref a) = none from rfl]
  refine wpAny_bind ((Looks.of_pure (M := model X.prog X.w) (h := s.heap) (t := typeOf (.int i t)) (r := Value.type "int") rfl).here (wpAny_bind (J.type.here ?_)))
  rw [if_pos (by simp)]
  refine wpAny_bind ((looks_subIn KX hi).here ?_)
  simp only [Bool.false_eq_true, if_false, Bool.not_false, if_true]
  refine wpAny_bind (wpAny_mono one (fun r s' z => ?_) fun _ _ e => e)
  obtain ⟨rfl, rfl⟩ := z
  refine wpAny_bind (wpAny_mono two (fun r s' z => ?_) fun _ _ e => e)
  obtain ⟨v, rfl, hq⟩ := z
  exact wpAny_pure hq
end
end Ly
namespace Ly
open PySem PySem.Spec PyProof.Rows L2
/-! ### static methods, keywords -/
/-- C.m is a static method: its record at p, its def at g -/
structure SMet (K : PySem.W.Frag) (C : Addr) (mc : Value) (m : Str) (p g : Addr) : Prop where
  at_ : PySem.W.findCls K (.ref C) mc m = some (.get (.builtin "staticmethod.__get__") (.ref p) .none (.ref C))
  rc : ∃ rest, PySem.W.recIn K p "staticmethod" = some (.ref g :: rest)
  kp : PySem.W.keepIn K (.ref g) = true
def tSMeth (C : Addr) (sp : Sp) (dvs : List V) (ta : TE) (t : TA) : TE := fun σ H Q => ta σ H fun x H1 => x = .ref C ∧ t σ H1 fun vs H2 => sp (vs ++ dvs) H2 Q E0
def tSMethK (C : Addr) (sp : Sp) (gV : List V → List V → List V) (ta : TE) (t tk : TA) : TE := fun σ H Q => ta σ H fun x H1 => x = .ref C ∧ t σ H1 fun vs H2 => tk σ H2 fun zs H3 => sp (gV vs zs) H3 Q E0
section
variable {X : Cx} {k : Nat} {C p g : Addr} {mc : Value} {fd : FuncData} {ps ks : List Str} {sp : Sp} {o e : Expr} {es : List Expr} {kws : List Keyword} {m : Str} {pos apos : Pos} {ta : TE} {t tk : TA} {pl : Sem Bool} {dvs : List V} {ds : List Value} {gv : List Value → List Value → List Value} {gV : List V → List V → List V}
theorem getsm_ok {pins : List (Addr × Obj)} {σ : L2.St} {H : Hp} {s : Shared} {A : Around} {E : Value → Shared → Prop} {Q : Value × List Value → Shared → Prop} (I : Inv X pins σ H s) (r : ClX.CRead X.K C mc) (c : SMet X.K C mc m p g)
    (h : ∀ s', Inv X pins σ H s' → Q (.ref g, []) s') : wpAny (model X.prog X.w) A (getMethod (.ref C) m pl) Q E s := by
  obtain ⟨rest, hp⟩ := c.rc
  refine PySem.W.method_cls I.kIn r.ga (PySem.W.cls_bind I.kIn r.rd c.at_ (wpAny_call (PySem.W.sm_get (s := { s with toks := s.toks + 1 }) I.kIn hp (PySem.W.handed_on rfl ?_))))
  exact h _ (I.tok _)
theorem pe_smeth (he : PE X o ta) (r : ClX.CRead X.K C mc) (c : SMet X.K C mc m p g) (F : FnOk X.prog X.w X.K X.mg X.base CX0 k g fd ps sp) (hr : Room k X.A) (hb : Binds X.K fd ps ds) (hd : Vals dvs ds) (ha : PA X (e :: es) t)
    (hst : starEach (e :: es) X.env = (false, eval e X.env) :: starEach es X.env := by rfl) (hpl : (backTo pos (starEach es X.env)).any (·.1) = false := by rfl)
    (ht : eval (.Call (.Attribute o m apos) (e :: es) [] pos) X.env = (do
      let ov ← eval o X.env
      standAt apos.atName
      let (f, first) ← holding [ov] (getMethod ov m pl)
      callWith pos f first (backTo pos (starEach (e :: es) X.env)) (backToKw pos (keywordEach [] X.env))) := by rfl) :
    PE X (.Call (.Attribute o m apos) (e :: es) [] pos) (tSMeth C sp dvs ta t) := by
  refine ⟨fun pins s σ H Q I h => ?_⟩
  refine PySem.W.methodCall_KW (pl := pl) (thn (he.run pins s σ H _ I h) fun u s1 ⟨x, H1, I1, rx, ex, q⟩ => ?_) ht
  subst ex
  obtain rfl : u = Value.ref C := rx
  refine getsm_ok I1 r c fun s2 I2 => ?_
  refine PySem.W.callWith_K (h₀ := X.base) I.ok.mod.kin c.kp (thn (ha.run pos pins s2 σ H1 _ I2 q) fun us s3 ⟨vs, H2, I3, rv, q2⟩ => ⟨I3.kIn, ?_⟩) hst hpl
  exact run_fn F hr hb hd pass0 I3 rv q2
/-- a def run with keywords -/
theorem run_kn {n : Nat} {pins : List (Addr × Obj)} {σ : L2.St} {H : Hp} {s : Shared} {Q : VK} {us ws : List Value} {vs zs : List V} (F : FnOk X.prog X.w X.K X.mg X.base CX0 k g fd ps sp) (hr : Room k X.A) (hb : KBn X.K fd ps n ks gv gV) (I : Inv X pins σ H s)
    (r : Vals vs us) (rz : Vals zs ws) (l1 : vs.length = n) (l2 : zs.length = ks.length) (h : sp (gV vs zs) H Q E0) : wpAny (model X.prog X.w) X.A (call (.ref g) us (ks.zip ws)) (EP X pins σ Q) X.xe s := by
  refine wpAny_call (codeAny_mono (F.run X.A X.stack s H ⟨us, ks.zip ws⟩ (gv us ws) (gV vs zs) Q E0 hr I.env0 (hb.to s us ws I.kIn (r.length.symm.trans l1) (rz.length.symm.trans l2)) (hb.rel r rz) h) fun r s' hq => ?_)
  cases r with
  | error e => exact False.elim hq
  | ok fl =>
    cases fl with
    | ret u => exact I.after hq
    | next => exact False.elim hq
    | brk => exact False.elim hq
    | cont => exact False.elim hq
/-- C.m(k = v, ..), a static method -/
def tSMethK0 (C : Addr) (m : Nat) (sp : Sp) (gV : List V → List V → List V) (ta : TE) (tk : TA) : TE := fun σ H Q => ta σ H fun x H1 => x = .ref C ∧ tk σ H1 fun zs H2 => zs.length = m ∧ sp (gV [] zs) H2 Q E0
theorem pe_smethK0 (he : PE X o ta) (r : ClX.CRead X.K C mc) (c : SMet X.K C mc m p g) (F : FnOk X.prog X.w X.K X.mg X.base CX0 k g fd ps sp) (hr : Room k X.A) (hb : KBn X.K fd ps 0 ks gv gV) (hkw : PK X kws tk)
    (hall : (backToKw pos (keywordEach kws X.env)).all (·.1.isSome) = true := by rfl) (hks : (backToKw pos (keywordEach kws X.env)).filterMap (·.1) = ks := by rfl)
    (hpl : ((backTo pos (starEach [] X.env)).any (·.1) || (backToKw pos (keywordEach kws X.env)).any (·.1.isNone)) = false := by rfl)
    (ht : eval (.Call (.Attribute o m apos) [] kws pos) X.env = (do
      let ov ← eval o X.env
      standAt apos.atName
      let (f, first) ← holding [ov] (getMethod ov m pl)
      callWith pos f first (backTo pos (starEach [] X.env)) (backToKw pos (keywordEach kws X.env))) := by rfl) :
    PE X (.Call (.Attribute o m apos) [] kws pos) (tSMethK0 C ks.length sp gV ta tk) := by
  refine ⟨fun pins s σ H Q I h => ?_⟩
  refine PySem.W.methodCall_KW (pl := pl) (thn (he.run pins s σ H _ I h) fun u s1 ⟨x, H1, I1, rx, ex, q⟩ => ?_) ht
  subst ex
  obtain rfl : u = Value.ref C := rx
  refine getsm_ok I1 r c fun s2 I2 => ?_
  refine PySem.W.callWith_KW0 (h₀ := X.base) I.ok.mod.kin c.kp hall ?_ hpl
  refine thn (hkw.run pos pins s2 σ H1 _ I2 q) fun ws s3 ⟨zs, H2, I3, rz, l2, q2⟩ => ⟨I3.kIn, ?_⟩
  rw [hks]
  exact run_kn (us := []) (vs := []) F hr hb I3 .nil rz rfl l2 q2
/-- o.m(k = v, ..) of an instance -/
def tMethK0 (C : Addr) (m : Str) (n : Nat) (sp : Sp) (gV : List V → List V → List V) (ta : TE) (tk : TA) : TE := fun σ H Q => ta σ H fun x H1 => ∃ a dx fs, x = .ref a ∧ H1 a = some (.ins C dx fs) ∧ fs.lookup m = none ∧ tk σ H1 fun zs H2 => zs.length = n ∧ sp (gV [x] zs) H2 Q E0
theorem pe_methK0 (he : PE X o ta) (c : Cls X.K C) (hm : Meth X.K C m g) (F : FnOk X.prog X.w X.K X.mg X.base CX0 k g fd ps sp) (hr : Room k X.A) (hb : KBn X.K fd ps 1 ks gv gV) (hkw : PK X kws tk)
    (hall : (backToKw pos (keywordEach kws X.env)).all (·.1.isSome) = true := by rfl) (hks : (backToKw pos (keywordEach kws X.env)).filterMap (·.1) = ks := by rfl)
    (hpl : ((backTo pos (starEach [] X.env)).any (·.1) || (backToKw pos (keywordEach kws X.env)).any (·.1.isNone)) = false := by rfl)
    (ht : eval (.Call (.Attribute o m apos) [] kws pos) X.env = (do
      let ov ← eval o X.env
      standAt apos.atName
      let (f, first) ← holding [ov] (getMethod ov m pl)
      callWith pos f first (backTo pos (starEach [] X.env)) (backToKw pos (keywordEach kws X.env))) := by rfl) :
    PE X (.Call (.Attribute o m apos) [] kws pos) (tMethK0 C m ks.length sp gV ta tk) := by
  refine ⟨fun pins s σ H Q I h => ?_⟩
  refine PySem.W.methodCall_KW (pl := pl) (thn (he.run pins s σ H _ I h) fun u s1 ⟨x, H1, I1, rx, a, dx, fs, ex, ea, l, q⟩ => ?_) ht
  subst ex
  obtain rfl : u = Value.ref a := rx
  refine getmeth_ok I1 ea c hm l ?_
  refine PySem.W.callWith_KW0 (first := [.ref a]) (h₀ := X.base) I.ok.mod.kin hm.kp hall ?_ hpl
  refine thn (hkw.run pos pins s1 σ H1 _ I1 q) fun ws s3 ⟨zs, H2, I3, rz, l2, q2⟩ => ⟨I3.kIn, ?_⟩
  rw [hks]
  exact run_kn (us := [.ref a]) (vs := [.ref a]) F hr hb I3 (.cons rfl .nil) rz rfl l2 q2
end
/-- how keywords bind where a def has no defaults -/
theorem kbn_of {K : PySem.W.Frag} {x qual : Str} {st : Stmt} {f : Addr} {fd : FuncData} {ps ks : List Str} {n : Nat} (F : L2.Fun K x qual st f fd)
    (h : ∀ (kV doc pm : Value) (an : Option Addr) (cdv ct : Value) (us ws : List Value), us.length = n → ws.length = ks.length →
      bindArgs (PySem.W.fnOf x qual (defArgs st) (defBody st) (defScope st) .none kV doc pm an cdv ct) ⟨us, ks.zip ws⟩ = pure (ps.zip (us ++ ws))) : KBn K fd ps n ks (· ++ ·) (· ++ ·) := by
  obtain ⟨oc, od, kV, doc, pm, an, cdv, ct, osl, rfl, lk, hcd⟩ := F.ex
  exact ⟨fun s us ws _ l1 l2 => .of_eq (h kV doc pm an cdv ct us ws l1 l2), fun r1 r2 => r1.append r2⟩
/-- .. and where it has, but all are given: g puts them in the parameters' order -/
theorem kbn_ofD {K : PySem.W.Frag} {x qual : Str} {st : Stmt} {f : Addr} {fd : FuncData} {ps ks : List Str} {n : Nat} {dvs : List V} {g : {α : Type} → List α → List α → List α} (F : FunD K x qual (defArgs st) (defBody st) (defScope st) dvs [] f fd) (hd : dvs ≠ [])
    (hrel : ∀ {vs zs : List V} {us ws : List Value}, Vals vs us → Vals zs ws → Vals (g vs zs) (g us ws))
    (h : ∀ (T : Addr) (kV doc pm : Value) (an : Option Addr) (cdv ct : Value) (us ws its : List Value), us.length = n → ws.length = ks.length → its.length = dvs.length →
      ∃ k, bindArgs (PySem.W.fnOf x qual (defArgs st) (defBody st) (defScope st) (.ref T) kV doc pm an cdv ct) ⟨us, ks.zip ws⟩ = seqItems? (.ref T) >>= k ∧ k (some its.toArray) = pure (ps.zip (g us ws))) : KBn K fd ps n ks g g := by
  obtain ⟨oc, od, dV, kV, doc, pm, an, cdv, ct, osl, rfl, lk, hcd, hD, hK⟩ := F.ex
  rcases hD with ⟨e, _⟩ | ⟨_, T, o, its, m, rfl, lT, oT, rT⟩
  · exact absurd e hd
  · refine ⟨fun s us ws X l1 l2 => ?_, fun r1 r2 => hrel r1 r2⟩
    obtain ⟨k, e1, e2⟩ := h T kV doc pm an cdv ct us ws its l1 l2 rT.length.symm
    refine BindsTo.of_looks fun M => ?_
    rw [e1]
    exact looks_items X lT oT (.of_pure e2)
end Ly

namespace Ly
open PySem PySem.Spec PyProof.Rows L2
/-! ### in place, where the class has no method for it -/
section
open PySem.W
variable {X : Cx} {C f : Addr} {fd : FuncData} {ps : List Str} {sp : Sp} {k : Nat} {op : Operator}
theorem fills_in {K : PySem.W.Frag} {M : Model} {h : Heap} {C : Addr} {nm : String} {add : Bool} {cd : ClassData} (KX : K.In h) (hcd : clsIn K C = some cd) (hm : cd.mro = [.ref C, .type "object"]) (h1 : findIn K (.ref C) (dunderI nm) = some none) (h2 : findIn K (.type "object") (dunderI nm) = some none) :
    Looks M h (fillsInplaceSlot (.ref C) nm add) false := by
  intro A Q E s k q
  have Lm : Looks M h (mroOf (.ref C)) cd.mro := (looks_clsIn KX hcd).andThen (f := fun cd => pure cd.mro) .now
  have Lm' := Lm.keeps k
  obtain ⟨hh, g, d, tt, os⟩ := s
  have KX' : K.In hh := KX.keeps k
  have L1 : Looks M hh (typeLookup (.ref C) (dunderI nm)) none := looks_findIn KX' h1
  have L2 : Looks M hh (typeLookup (.type "object") (dunderI nm)) none := looks_findIn KX' h2
  unfold fillsInplaceSlot
  refine wpAny_bind (Lm'.at ?_)
  rw [hm, List.anyM_cons]
  repeat lk
  exact q
/-- the class's mro is itself and object -/
def mro2 (K : PySem.W.Frag) (C : Addr) : Bool := (clsIn K C).any fun cd => cd.mro == [.ref C, .type "object"]
theorem mro2_of {K : PySem.W.Frag} {C : Addr} (h : mro2 K C = true) : ∃ cd, clsIn K C = some cd ∧ cd.mro = [.ref C, .type "object"] := by
  obtain ⟨cd, h1, h2⟩ := any_some h
  exact ⟨cd, h1, by simpa using h2⟩
theorem bin1_own2 {pins : List (Addr × Obj)} {σ : L2.St} {H : Hp} {s : Shared} {Q : VK} {nm : String} {a b dx dy : Addr} {fs gs : List (Str × V)} (F : FnOk X.prog X.w X.K X.mg X.base CX0 k f fd ps sp) (hr : Room k X.A) (hb : Binds X.K fd ps []) (hs : findIn X.K (.ref C) (PySem.dunder nm) = some (some (.ref f)))
    (hf : isFn X.K (.ref f) = true) (hc : selfFirst X.K C = true) (I : Inv X pins σ H s) (ha : H a = some (.ins C dx fs)) (hb' : H b = some (.ins C dy gs)) (q : sp [.ref a, .ref b] H Q E0) :
    wpAny (model X.prog X.w) X.A (binaryOp1 nm (.ref a) (.ref b)) (fun r s' => ∃ v, r = some v ∧ EP X pins σ Q v s') X.xe s := by
  obtain ⟨mA, J, _⟩ := ins_get I.hok ha
  obtain ⟨mB, J', _⟩ := ins_get I.hok hb'
  obtain ⟨od, J, _⟩ := J.look
  obtain ⟨od', J', _⟩ := J'.look
  have KX := I.kIn
  obtain ⟨cd, rest, hcd, hm⟩ := ksp_first hc
  have one := ksp_try (E := X.xe) (M := model X.prog X.w) KX J hs hf (cmpback (run_fn (us := [.ref a, .ref b]) (vs := [.ref a, .ref b]) F hr hb .nil pass0 I (.cons rfl (.cons rfl .nil)) q))
  obtain ⟨hh, gg, d, tt, os⟩ := s
  have L1 : Looks (model X.prog X.w) hh (typeOf (.ref a)) (.ref C) := J.type
  have L2 : Looks (model X.prog X.w) hh (typeOf (.ref b)) (.ref C) := J'.type
  have L3 : Looks (model X.prog X.w) hh (fillsNumberSlot (.ref C) nm) true := fills_K KX hcd hm hs
  unfold binaryOp1
  refine wpAny_bind (L1.at ?_)
  refine wpAny_bind (L2.at ?_)
  refine wpAny_bind (L3.at ?_)
  simp only [beq_self_eq_true, if_true]
  ksp_lk
  refine wpAny_mono one (fun r s' hr' => ?_) fun _ _ e => e
  obtain ⟨v, rfl, hq⟩ := hr'
  ksp_lk
  exact ⟨v, rfl, hq⟩
theorem bin1_ownI {fo ro rc : Option Value} {pins : List (Addr × Obj)} {σ : L2.St} {H : Hp} {s : Shared} {Q : VK} {nm : String} {a dx : Addr} {i : Int} {t : Tok} {fs : List (Str × V)} (F : FnOk X.prog X.w X.K X.mg X.base CX0 k f fd ps sp) (hr : Room k X.A) (hb : Binds X.K fd ps [])
    (hs : findIn X.K (.ref C) (PySem.dunder nm) = some (some (.ref f))) (hf : isFn X.K (.ref f) = true) (hc : selfFirst X.K C = true) (hrc : findIn X.K (.ref C) (dunderR nm) = some rc) (hp : rc = none ∨ ∃ g : Addr, rc = some (.ref g))
    (h1 : findIn X.K (.type "int") (PySem.dunder nm) = some fo) (h2 : findIn X.K (.type "int") (dunderR nm) = some ro) (h12 : ((fo.isSome && !isSeqSlot fo) || (ro.isSome && !isSeqSlot ro)) = true) (hsub : subIn X.K (.type "int") (.ref C) = some false)
    (I : Inv X pins σ H s) (ha : H a = some (.ins C dx fs)) (q : sp [.ref a, .int i] H Q E0) :
    wpAny (model X.prog X.w) X.A (binaryOp1 nm (.ref a) (.int i t)) (fun r s' => ∃ v, r = some v ∧ EP X pins σ Q v s') X.xe s := by
  obtain ⟨mA, J, _⟩ := ins_get I.hok ha
  obtain ⟨od, J, _⟩ := J.look
  have KX := I.kIn
  obtain ⟨cd, rest, hcd, hm⟩ := ksp_first hc
  have one := ksp_try (E := X.xe) (M := model X.prog X.w) KX J hs hf (cmpback (run_fn (us := [.ref a, .int i t]) (vs := [.ref a, .int i]) F hr hb .nil pass0 I (.cons rfl (.cons ⟨t, rfl⟩ .nil)) q))
  obtain ⟨hh, gg, d, tt, os⟩ := s
  have L1 : Looks (model X.prog X.w) hh (typeOf (.ref a)) (.ref C) := J.type
  have L2 : Looks (model X.prog X.w) hh (typeOf (.int i t)) (.type "int") := Looks.of_pure rfl
  have L3 : Looks (model X.prog X.w) hh (fillsNumberSlot (.ref C) nm) true := fills_K KX hcd hm hs
  have L4 : Looks (model X.prog X.w) hh (fillsNumberSlot (.type "int") nm) true := by
    have z := ksp_fillsT (M := model X.prog X.w) KX h1 h2
    rw [h12] at z
    exact z
  have L5 : Looks (model X.prog X.w) hh (isSubtype (.type "int") (.ref C)) false := looks_subIn KX hsub
  have L6 : Looks (model X.prog X.w) hh (numberSlotInPython (.ref C) nm) true := ksp_inPy KX hs hrc hp
  have L7 : Looks (model X.prog X.w) hh (numberSlotInPython (.type "int") nm) false := Looks.of_pure rfl
  have L8 : Looks (model X.prog X.w) hh (typeLookup (.type "int") (dunderR nm)) ro := looks_findIn KX h2
  have hne : (Value.ref C == Value.type "int") = false := Bool.eq_false_iff.mpr fun q => by cases beq_iff_eq.mp q
  unfold binaryOp1
  refine wpAny_bind (L1.at ?_)
  refine wpAny_bind (L2.at ?_)
  refine wpAny_bind (L3.at ?_)
  simp only [hne, Bool.false_eq_true, if_false]
  ksp_lk
  refine wpAny_mono one (fun r s' hr' => ?_) fun _ _ e => e
  obtain ⟨v, rfl, hq⟩ := hr'
  ksp_lk
  exact ⟨v, rfl, hq⟩
theorem in_of {pins : List (Addr × Obj)} {σ : L2.St} {H : Hp} {s : Shared} {Q : VK} {a dx : Addr} {fs : List (Str × V)} {u : Value} (I : Inv X pins σ H s) (ha : H a = some (.ins C dx fs)) (h2 : mro2 X.K C = true) (hi : findIn X.K (.ref C) (dunderI op.info.2) = some none) (ho : findIn X.K (.type "object") (dunderI op.info.2) = some none)
    (h : wpAny (model X.prog X.w) X.A (binaryOp1 op.info.2 (.ref a) u) (fun r s' => ∃ v, r = some v ∧ EP X pins σ Q v s') X.xe s) : wpAny (model X.prog X.w) X.A (inplaceOp op (.ref a) u) (EP X pins σ Q) X.xe s := by
  obtain ⟨mA, J, _⟩ := ins_get I.hok ha
  obtain ⟨od, J, _⟩ := J.look
  obtain ⟨cd, hcd, hm⟩ := mro2_of h2
  unfold inplaceOp
  refine wpAny_holding ?_
  refine wpAny_bind (J.type.here ?_)
  refine wpAny_bind ((fills_in I.kIn hcd hm hi ho).here ?_)
  rw [if_neg Bool.false_ne_true]
  refine wpAny_bind (wpAny_mono h (fun r s' z => ?_) fun _ _ e => e)
  obtain ⟨v, rfl, q⟩ := z
  exact wpAny_pure q
end
end Ly

namespace Ly
open PySem PySem.Spec PyProof.Rows L2
/-! ### packages -/
structure GM (K : PySem.W.Frag) (C : Addr) (m qual : Str) (st : Stmt) : Prop where
  ex : ∃ (f : Addr) (fd : FuncData), L2.Fun K m qual st f fd ∧ Meth K C m f
structure GS (K : PySem.W.Frag) (C : Addr) (m qual : Str) (st : Stmt) : Prop where
  ex : ∃ (p g : Addr) (fd : FuncData) (mc : Value), L2.Fun K m qual st g fd ∧ SMet K C mc m p g ∧ ClX.CRead K C mc
structure GP (K : PySem.W.Frag) (C : Addr) (m qual : Str) (st : Stmt) : Prop where
  ex : ∃ (p g : Addr) (fd : FuncData), L2.Fun K m qual st g fd ∧ PropOf K C m p g
structure GI (K : PySem.W.Frag) (C : Addr) (qual : Str) (st : Stmt) (dvs : List V) : Prop where
  ex : ∃ (f : Addr) (fd : FuncData), FunD K "__init__" qual (defArgs st) (defBody st) (defScope st) dvs [] f fd ∧ Mk K C f
structure OwnC (K : PySem.W.Frag) (mg : Str → Option Value) (x : Str) (C : Addr) : Prop where
  mg : mg x = some (.ref C)
  cls : Cls K C
  kp : PySem.W.keepIn K (.ref C) = true
  sf : PySem.W.selfFirst K C = true
  m2 : mro2 K C = true
  sI : PySem.W.subIn K (.type "int") (.ref C) = some false
  sI' : PySem.W.subIn K (.ref C) (.type "int") = some false
  sO : PySem.W.subIn K (.ref C) (.type "object") = some true
  nI : PySem.W.notFirst K C (.type "int") = true
  kO : PySem.W.kitOne K (.ref C) (.ref C) = some true
  kI : PySem.W.kitOne K (.type "int") (.ref C) = some false
  cl : PySem.W.findIn K (.ref C) "__class__" = some (some (.builtin "object.__class__"))
  mo : PySem.W.mroIn K C (.type "object") = some true
structure Mt (W : Wd) (k : Nat) (C : Addr) (m : Str) (sp : Sp) : Prop where
  ex : ∃ (f : Addr) (fd : FuncData) (ps : List Str), Meth W.K C m f ∧ FnOk W.P W.w W.K W.mg W.base CX0 k f fd ps sp ∧ Binds W.K fd ps []
structure MtK (W : Wd) (k : Nat) (C : Addr) (m : Str) (n : Nat) (ks : List Str) (sp : Sp) : Prop where
  ex : ∃ (f : Addr) (fd : FuncData) (ps : List Str), Meth W.K C m f ∧ FnOk W.P W.w W.K W.mg W.base CX0 k f fd ps sp ∧ KBn W.K fd ps n ks (· ++ ·) (· ++ ·)
structure Sm (W : Wd) (k : Nat) (C : Addr) (m : Str) (sp : Sp) : Prop where
  ex : ∃ (p g : Addr) (fd : FuncData) (ps : List Str) (mc : Value), ClX.CRead W.K C mc ∧ SMet W.K C mc m p g ∧ FnOk W.P W.w W.K W.mg W.base CX0 k g fd ps sp ∧ Binds W.K fd ps []
structure SmK (W : Wd) (k : Nat) (C : Addr) (m : Str) (ks : List Str) (sp : Sp) : Prop where
  ex : ∃ (p g : Addr) (fd : FuncData) (ps : List Str) (mc : Value), ClX.CRead W.K C mc ∧ SMet W.K C mc m p g ∧ FnOk W.P W.w W.K W.mg W.base CX0 k g fd ps sp ∧ KBn W.K fd ps 0 ks (· ++ ·) (· ++ ·)
structure Pp (W : Wd) (k : Nat) (C : Addr) (m : Str) (sp : Sp) : Prop where
  ex : ∃ (p g : Addr) (fd : FuncData) (ps : List Str), PropOf W.K C m p g ∧ FnOk W.P W.w W.K W.mg W.base CX0 k g fd ps sp ∧ Binds W.K fd ps []
/-- a class whose instances are made by position, dvs the defaults that fill up -/
structure Mak (W : Wd) (k : Nat) (x : Str) (C : Addr) (sp : Sp) (dvs : List V) : Prop where
  ex : ∃ (f : Addr) (fd : FuncData) (ps : List Str) (ds : List Value), Mk W.K C f ∧ FnOk W.P W.w W.K W.mg W.base CX0 k f fd ps sp ∧ W.mg x = some (.ref C) ∧ Binds W.K fd ps ds ∧ Vals dvs ds

/-- a body as cl_of and its kin want it -/
def BodyOk (W : Wd) (k : Nat) (N : List Str) (qual : Str) (st : Stmt) (sp : Sp) : Prop :=
  ∀ (f : Addr) (cdv : Value) (A : Around) (outer : List Env) (s : Shared) (H : Hp) (vs : List V) (Q : VK) (E : XK), Room k (A.deeper (envOfC qual (defScope st) s.heap.objs.size f cdv)) → sp vs H Q E →
      ∃ t, PSs (cxOf CX0 W.P W.w W.K W.mg W.base N qual (defScope st) f cdv A outer s H E).nox (defBody st) t ∧ t { nx := fun _ H' => Q .non H', rt := Q } (start N vs) H
def BindOk (m qual : Str) (st : Stmt) (ps : List Str) : Prop :=
  ∀ (kV doc pm : Value) (an : Option Addr) (cdv ct : Value) (us : List Value), us.length = ps.length → bindArgs (PySem.W.fnOf m qual (defArgs st) (defBody st) (defScope st) .none kV doc pm an cdv ct) ⟨us, []⟩ = pure (ps.zip us)
def KBindOk (m qual : Str) (st : Stmt) (ps : List Str) (n : Nat) (ks : List Str) : Prop :=
  ∀ (kV doc pm : Value) (an : Option Addr) (cdv ct : Value) (us ws : List Value), us.length = n → ws.length = ks.length → bindArgs (PySem.W.fnOf m qual (defArgs st) (defBody st) (defScope st) .none kV doc pm an cdv ct) ⟨us, ks.zip ws⟩ = pure (ps.zip (us ++ ws))
section
variable {W : Wd} {k : Nat} {C : Addr} {m qual : Str} {st : Stmt} {N ps ks : List Str} {n : Nat} {sp : Sp}
theorem cl_of' {x : Str} (g : GF W.K W.mg x st) (S : FnScope N ps (defScope st)) (hb : BindOk x x st ps) (len : ∀ vs H Q E, sp vs H Q E → vs.length = ps.length) (hbody : BodyOk W k N x st sp) : Cl W (k + 1) x sp := cl_of g S hb len hbody
theorem mt_of (g : GM W.K C m qual st) (S : FnScope N ps (defScope st)) (hb : BindOk m qual st ps) (len : ∀ vs H Q E, sp vs H Q E → vs.length = ps.length) (hbody : BodyOk W k N qual st sp) : Mt W (k + 1) C m sp := by
  obtain ⟨f, fd, F, hm⟩ := g.ex
  exact ⟨f, fd, ps, hm, F.ok S len (fun cdv A outer s H vs Q E => hbody f cdv A outer s H vs Q E), F.binds hb⟩
theorem mtk_of (g : GM W.K C m qual st) (S : FnScope N ps (defScope st)) (hb : KBindOk m qual st ps n ks) (len : ∀ vs H Q E, sp vs H Q E → vs.length = ps.length) (hbody : BodyOk W k N qual st sp) : MtK W (k + 1) C m n ks sp := by
  obtain ⟨f, fd, F, hm⟩ := g.ex
  exact ⟨f, fd, ps, hm, F.ok S len (fun cdv A outer s H vs Q E => hbody f cdv A outer s H vs Q E), kbn_of F hb⟩
theorem sm_of (g : GS W.K C m qual st) (S : FnScope N ps (defScope st)) (hb : BindOk m qual st ps) (len : ∀ vs H Q E, sp vs H Q E → vs.length = ps.length) (hbody : BodyOk W k N qual st sp) : Sm W (k + 1) C m sp := by
  obtain ⟨p, f, fd, mc, F, hm, hr⟩ := g.ex
  exact ⟨p, f, fd, ps, mc, hr, hm, F.ok S len (fun cdv A outer s H vs Q E => hbody f cdv A outer s H vs Q E), F.binds hb⟩
theorem smk_of (g : GS W.K C m qual st) (S : FnScope N ps (defScope st)) (hb : KBindOk m qual st ps 0 ks) (len : ∀ vs H Q E, sp vs H Q E → vs.length = ps.length) (hbody : BodyOk W k N qual st sp) : SmK W (k + 1) C m ks sp := by
  obtain ⟨p, f, fd, mc, F, hm, hr⟩ := g.ex
  exact ⟨p, f, fd, ps, mc, hr, hm, F.ok S len (fun cdv A outer s H vs Q E => hbody f cdv A outer s H vs Q E), kbn_of F hb⟩
theorem pp_of (g : GP W.K C m qual st) (S : FnScope N ps (defScope st)) (hb : BindOk m qual st ps) (len : ∀ vs H Q E, sp vs H Q E → vs.length = ps.length) (hbody : BodyOk W k N qual st sp) : Pp W (k + 1) C m sp := by
  obtain ⟨p, f, fd, F, hm⟩ := g.ex
  exact ⟨p, f, fd, ps, hm, F.ok S len (fun cdv A outer s H vs Q E => hbody f cdv A outer s H vs Q E), F.binds hb⟩
end
section
variable {X : Cx} {k j : Nat} {C : Addr} {x m : Str} {sp : Sp} {p pos apos : Pos} {o e : Expr} {es : List Expr} {kws : List Keyword} {ta : TE} {t tk : TA} {dvs : List V} {pl : Sem Bool} {ks : List Str}
theorem pe_mt (c : Cls X.K C) (h : Mt ⟨X.prog, X.w, X.K, X.mg, X.base⟩ k C m sp) (hr : Room j X.A) (hk : k ≤ j) (he : PE X o ta) (ha : PA X (e :: es) t)
    (hst : starEach (e :: es) X.env = (false, eval e X.env) :: starEach es X.env := by rfl) (hpl : (backTo pos (starEach es X.env)).any (·.1) = false := by rfl)
    (ht : eval (.Call (.Attribute o m apos) (e :: es) [] pos) X.env = (do
      let ov ← eval o X.env
      standAt apos.atName
      let (f, first) ← holding [ov] (getMethod ov m pl)
      callWith pos f first (backTo pos (starEach (e :: es) X.env)) (backToKw pos (keywordEach [] X.env))) := by rfl) :
    PE X (.Call (.Attribute o m apos) (e :: es) [] pos) (tMeth C m sp [] E0 ta t) := by
  obtain ⟨f, fd, ps, hm, F, b⟩ := h.ex
  exact pe_meth (pl := pl) he c hm F (hr.mono hk) b .nil pass0 ha hst hpl ht
theorem pe_mt0 (c : Cls X.K C) (h : Mt ⟨X.prog, X.w, X.K, X.mg, X.base⟩ k C m sp) (hr : Room j X.A) (hk : k ≤ j) (he : PE X o ta)
    (ht : eval (.Call (.Attribute o m apos) [] [] pos) X.env = (do
      let ov ← eval o X.env
      standAt apos.atName
      let (f, first) ← holding [ov] (getMethod ov m pl)
      callWith pos f first (backTo pos (starEach [] X.env)) (backToKw pos (keywordEach [] X.env))) := by rfl) :
    PE X (.Call (.Attribute o m apos) [] [] pos) (tMeth C m sp [] E0 ta tNil) := by
  obtain ⟨f, fd, ps, hm, F, b⟩ := h.ex
  exact pe_meth0 (pl := pl) he c hm F (hr.mono hk) b .nil pass0 ht
theorem pe_mtk (c : Cls X.K C) (h : MtK ⟨X.prog, X.w, X.K, X.mg, X.base⟩ k C m 1 ks sp) (hr : Room j X.A) (hk : k ≤ j) (he : PE X o ta) (hkw : PK X kws tk)
    (hall : (backToKw pos (keywordEach kws X.env)).all (·.1.isSome) = true := by rfl) (hks : (backToKw pos (keywordEach kws X.env)).filterMap (·.1) = ks := by rfl)
    (hpl : ((backTo pos (starEach [] X.env)).any (·.1) || (backToKw pos (keywordEach kws X.env)).any (·.1.isNone)) = false := by rfl)
    (ht : eval (.Call (.Attribute o m apos) [] kws pos) X.env = (do
      let ov ← eval o X.env
      standAt apos.atName
      let (f, first) ← holding [ov] (getMethod ov m pl)
      callWith pos f first (backTo pos (starEach [] X.env)) (backToKw pos (keywordEach kws X.env))) := by rfl) :
    PE X (.Call (.Attribute o m apos) [] kws pos) (tMethK0 C m ks.length sp (· ++ ·) ta tk) := by
  obtain ⟨f, fd, ps, hm, F, b⟩ := h.ex
  exact pe_methK0 (pl := pl) he c hm F (hr.mono hk) b hkw hall hks hpl ht
theorem pe_sm (h : Sm ⟨X.prog, X.w, X.K, X.mg, X.base⟩ k C m sp) (hr : Room j X.A) (hk : k ≤ j) (he : PE X o ta) (ha : PA X (e :: es) t)
    (hst : starEach (e :: es) X.env = (false, eval e X.env) :: starEach es X.env := by rfl) (hpl : (backTo pos (starEach es X.env)).any (·.1) = false := by rfl)
    (ht : eval (.Call (.Attribute o m apos) (e :: es) [] pos) X.env = (do
      let ov ← eval o X.env
      standAt apos.atName
      let (f, first) ← holding [ov] (getMethod ov m pl)
      callWith pos f first (backTo pos (starEach (e :: es) X.env)) (backToKw pos (keywordEach [] X.env))) := by rfl) :
    PE X (.Call (.Attribute o m apos) (e :: es) [] pos) (tSMeth C sp [] ta t) := by
  obtain ⟨p, g, fd, ps, mc, r, c, F, b⟩ := h.ex
  exact pe_smeth (pl := pl) he r c F (hr.mono hk) b .nil ha hst hpl ht
theorem pe_smk (h : SmK ⟨X.prog, X.w, X.K, X.mg, X.base⟩ k C m ks sp) (hr : Room j X.A) (hk : k ≤ j) (he : PE X o ta) (hkw : PK X kws tk)
    (hall : (backToKw pos (keywordEach kws X.env)).all (·.1.isSome) = true := by rfl) (hks : (backToKw pos (keywordEach kws X.env)).filterMap (·.1) = ks := by rfl)
    (hpl : ((backTo pos (starEach [] X.env)).any (·.1) || (backToKw pos (keywordEach kws X.env)).any (·.1.isNone)) = false := by rfl)
    (ht : eval (.Call (.Attribute o m apos) [] kws pos) X.env = (do
      let ov ← eval o X.env
      standAt apos.atName
      let (f, first) ← holding [ov] (getMethod ov m pl)
      callWith pos f first (backTo pos (starEach [] X.env)) (backToKw pos (keywordEach kws X.env))) := by rfl) :
    PE X (.Call (.Attribute o m apos) [] kws pos) (tSMethK0 C ks.length sp (· ++ ·) ta tk) := by
  obtain ⟨p, g, fd, ps, mc, r, c, F, b⟩ := h.ex
  exact pe_smethK0 (pl := pl) he r c F (hr.mono hk) b hkw hall hks hpl ht
theorem pe_pp (c : Cls X.K C) (h : Pp ⟨X.prog, X.w, X.K, X.mg, X.base⟩ k C m sp) (hr : Room j X.A) (hk : k + 1 ≤ j) (he : PE X e ta) (hab : attributeBase e m X.env (eval e X.env) = eval e X.env) : PE X (.Attribute e m pos) (tProp C sp [] E0 ta) := by
  obtain ⟨p, g, fd, ps, hp, F, b⟩ := h.ex
  exact pe_prop he c hp F (hr.mono hk) b .nil pass0 hab
theorem pe_mak (h : Mak ⟨X.prog, X.w, X.K, X.mg, X.base⟩ k x C sp dvs) (hr : Room j X.A) (hk : k + 1 ≤ j) (hg : Gl X x) (ha : PA X (e :: es) t)
    (hdb : (x == ("__debug__" : Str)) = false := by decide) (he : starEach (e :: es) X.env = (false, eval e X.env) :: starEach es X.env := by rfl) (hpl : (backTo pos (starEach es X.env)).any (·.1) = false := by rfl) :
    PE X (.Call (.Name x p) (e :: es) [] pos) (tMake C sp dvs E0 t) := by
  obtain ⟨f, fd, ps, ds, M, F, hm, b, d⟩ := h.ex
  exact pe_make M F (hr.mono hk) hg hm b d pass0 ha hdb he hpl
/-- a class's or another constant's name -/
theorem pe_gn {v : V} {u : Value} (hg : Gl X x) (hm : X.mg x = some u) (r : RelV v u) (hd : (x == ("__debug__" : Str)) = false := by decide) : PE X (.Name x pos) (tC v) := pe_glob hg hm r hd
end
end Ly

namespace Ly
open PySem PySem.Spec PyProof.Rows L2
/-! ### what the top has written -/
section
variable {K : PySem.W.Frag} {h : Heap} {mg : Str → Option Value} {f g p C : Addr} {oc kV doc pm cdv ct dV : Value} {od an : Option Addr} {osl : Array (Option Value)} {x m qual : Str} {st : Stmt}
theorem gf_mk (X : K.In h) (G : h.Ns mainGlobals mg) (a : PySem.W.nsIn K mainGlobals x = some (some (.ref f)))
    (l : K.lookup f = some ⟨oc, od, .func (PySem.W.fnOf x x (defArgs st) (defBody st) (defScope st) .none kV doc pm an cdv ct), osl⟩) (c : PySem.W.codeIn K cdv x = true) (k : PySem.W.keepIn K (.ref f) = true) : GF K mg x st :=
  ⟨f, _, fun_mk l c k, PySem.W.mg_of X G a⟩
theorem gm_mk (a : PySem.W.findIn K (.ref C) m = some (some (.ref f))) (i : PySem.W.isFn K (.ref f) = true)
    (l : K.lookup f = some ⟨oc, od, .func (PySem.W.fnOf m qual (defArgs st) (defBody st) (defScope st) .none kV doc pm an cdv ct), osl⟩) (c : PySem.W.codeIn K cdv qual = true) (k : PySem.W.keepIn K (.ref f) = true) : GM K C m qual st :=
  ⟨f, _, fun_mk l c k, ⟨a, i, k⟩⟩
theorem gp_mk (a : PySem.W.findIn K (.ref C) m = some (some (.ref p))) (b : PySem.W.specialIn K (.ref p) "__get__" = some (some (.builtin "property.__get__"))) (t : PySem.W.takesIn K (.ref p) = some true)
    {rest : List Value} (r : PySem.W.recIn K p "property" = some (.ref f :: rest))
    (l : K.lookup f = some ⟨oc, od, .func (PySem.W.fnOf m qual (defArgs st) (defBody st) (defScope st) .none kV doc pm an cdv ct), osl⟩) (c : PySem.W.codeIn K cdv qual = true) (k : PySem.W.keepIn K (.ref f) = true) : GP K C m qual st :=
  ⟨p, f, _, fun_mk l c k, ⟨a, b, t, rest, r⟩⟩
theorem gs_mk {mc : Value} (a : PySem.W.findCls K (.ref C) mc m = some (.get (.builtin "staticmethod.__get__") (.ref p) .none (.ref C))) {rest : List Value} (r : PySem.W.recIn K p "staticmethod" = some (.ref f :: rest)) (rd : PySem.W.readsIn K C mc = true)
    (ga : PySem.W.specialIn K (.ref C) "__getattribute__" = some (some (.builtin "type.__getattribute__")))
    (l : K.lookup f = some ⟨oc, od, .func (PySem.W.fnOf m qual (defArgs st) (defBody st) (defScope st) .none kV doc pm an cdv ct), osl⟩) (c : PySem.W.codeIn K cdv qual = true) (k : PySem.W.keepIn K (.ref f) = true) : GS K C m qual st :=
  ⟨p, f, _, mc, fun_mk l c k, ⟨a, ⟨rest, r⟩, k⟩, ⟨rd, ga⟩⟩
/-- an __init__ with one default, an int -/
theorem gi_mk1 {T : Addr} {o : Obj} {i : Int} {t : Tok} {n : Nat} (mk : PySem.W.makesIn K C = true) (a : PySem.W.findIn K (.ref C) "__init__" = some (some (.ref f))) (i1 : PySem.W.isFn K (.ref f) = true) (kc : PySem.W.keepIn K (.ref C) = true)
    (l : K.lookup f = some ⟨oc, od, .func (PySem.W.fnOf "__init__" qual (defArgs st) (defBody st) (defScope st) (.ref T) kV doc pm an cdv ct), osl⟩) (lT : K.lookup T = some o) (oT : o.data = .seq [Value.int i t].toArray n) (c : PySem.W.codeIn K cdv qual = true) (k : PySem.W.keepIn K (.ref f) = true) : GI K C qual st [.int i] :=
  ⟨f, _, ⟨⟨oc, od, .ref T, kV, doc, pm, an, cdv, ct, osl, rfl, l, c, .inr ⟨List.cons_ne_nil _ _, T, o, _, n, rfl, lT, oT, .cons ⟨t, rfl⟩ .nil⟩, .inl rfl⟩, k⟩, ⟨mk, a, i1, kc⟩⟩
theorem m2_mk {cd : ClassData} (h : PySem.W.clsIn K C = some cd) (e : (cd.mro == [.ref C, .type "object"]) = true) : mro2 K C = true := by
  unfold mro2
  rw [h]
  exact e
theorem kO_mk : PySem.W.kitOne K (.ref C) (.ref C) = some true := by
  unfold PySem.W.kitOne
  rw [if_pos]
  exact beq_self_eq_true _
theorem kI_mk {cd : ClassData} (h : PySem.W.clsIn K C = some cd) (t : PySem.W.typeIn K (.ref C) = some (.type "type")) (s : PySem.W.subIn K (.type "int") (.ref C) = some false) : PySem.W.kitOne K (.type "int") (.ref C) = some false := by
  unfold PySem.W.kitOne
  rw [if_neg (by intro z; cases eq_of_beq z)]
  unfold PySem.W.kitCls
  simp only
  rw [h, t, s]
  rfl
theorem noattr_mk (h : PySem.W.findIn K (.ref C) x = some none) : NoAttr K C x := h
end
end Ly

namespace Ly
open PySem PySem.Spec PyProof.Rows L2
section
variable {K : PySem.W.Frag} {f C : Addr} {oc kV doc pm cdv ct : Value} {od an : Option Addr} {osl : Array (Option Value)} {qual : Str} {st : Stmt}
/-- an __init__ without defaults -/
theorem gi_mk0 (mk : PySem.W.makesIn K C = true) (a : PySem.W.findIn K (.ref C) "__init__" = some (some (.ref f))) (i1 : PySem.W.isFn K (.ref f) = true) (kc : PySem.W.keepIn K (.ref C) = true)
    (l : K.lookup f = some ⟨oc, od, .func (PySem.W.fnOf "__init__" qual (defArgs st) (defBody st) (defScope st) .none kV doc pm an cdv ct), osl⟩) (c : PySem.W.codeIn K cdv qual = true) (k : PySem.W.keepIn K (.ref f) = true) : GI K C qual st [] :=
  ⟨f, _, ⟨⟨oc, od, .none, kV, doc, pm, an, cdv, ct, osl, rfl, l, c, .inl ⟨rfl, rfl⟩, .inl rfl⟩, k⟩, ⟨mk, a, i1, kc⟩⟩
theorem kT_mk {T : String} {cd : ClassData} (h : PySem.W.clsIn K C = some cd) (t : PySem.W.typeIn K (.ref C) = some (.type "type")) (s : PySem.W.subIn K (.type T) (.ref C) = some false) : PySem.W.kitOne K (.type T) (.ref C) = some false := by
  unfold PySem.W.kitOne
  rw [if_neg (by intro z; cases eq_of_beq z)]
  unfold PySem.W.kitCls
  simp only
  rw [h, t, s]
  rfl
end
end Ly

namespace Ly
/-! ### fractions as pairs -/
def G (t b : Int) : Int := (Int.gcd t b : Int)
/-- top and bottom in lowest terms, the bottom above 0 -/
def Nu (t b : Int) : Int := if 0 < b then t / G t b else (-t) / G t b
def De (t b : Int) : Int := if 0 < b then b / G t b else (-b) / G t b
structure Lo (t b : Int) : Prop where
  pos : 0 < b
  one : Int.gcd t b = 1
theorem G_pos {t b : Int} (h : b ≠ 0) : 0 < G t b := by
  unfold G
  have := Int.gcd_pos_of_ne_zero_right t h
  omega
theorem G_dl (t b : Int) : G t b ∣ t := Int.gcd_dvd_left ..
theorem G_dr (t b : Int) : G t b ∣ b := Int.gcd_dvd_right ..
theorem fdiv_exact {x g : Int} (hg : 0 < g) (h : g ∣ x) : x.fdiv g = x / g := Int.fdiv_eq_ediv_of_nonneg x (by omega)
theorem fdiv_exact_neg {x g : Int} (hg : 0 < g) (h : g ∣ x) : x.fdiv (-g) = (-x) / g := by
  obtain ⟨q, rfl⟩ := h
  have e1 : (g * q).fdiv (-g) = -q := by
    rw [show g * q = (-g) * (-q) by rw [Int.neg_mul_neg]]
    exact Int.mul_fdiv_cancel_left (-q) (by omega)
  rw [e1, show -(g * q) = g * (-q) by rw [Int.mul_neg]]
  exact (Int.mul_ediv_cancel_left (-q) (by omega)).symm
/-- what Ratio's constructor works out -/
theorem nu_of {t b : Int} (h : b ≠ 0) : t.fdiv (if 0 < b then G t b else -G t b) = Nu t b := by
  unfold Nu
  split
  · exact fdiv_exact (G_pos h) (G_dl t b)
  · exact fdiv_exact_neg (G_pos h) (G_dl t b)
theorem de_of {t b : Int} (h : b ≠ 0) : b.fdiv (if 0 < b then G t b else -G t b) = De t b := by
  unfold De
  split
  · exact fdiv_exact (G_pos h) (G_dr t b)
  · exact fdiv_exact_neg (G_pos h) (G_dr t b)
theorem Lo.nu {t b : Int} (l : Lo t b) : Nu t b = t := by
  unfold Nu G
  rw [if_pos l.pos, l.one]
  exact Int.ediv_one t
theorem Lo.de {t b : Int} (l : Lo t b) : De t b = b := by
  unfold De G
  rw [if_pos l.pos, l.one]
  exact Int.ediv_one b
theorem lo_int (i : Int) : Lo i 1 := ⟨by decide, by simp⟩
theorem pos_of_mul {g q : Int} (hg : 0 < g) (h : 0 < g * q) : 0 < q := by
  rcases Int.lt_or_le 0 q with k | k
  · exact k
  · have z := Int.mul_le_mul_of_nonneg_left k (Int.le_of_lt hg)
    rw [Int.mul_zero] at z
    omega
theorem lo_nu {t b : Int} (h : b ≠ 0) : Lo (Nu t b) (De t b) := by
  have hg := G_pos (t := t) h
  obtain ⟨p, hp⟩ := G_dl t b
  obtain ⟨q, hq⟩ := G_dr t b
  have gp : ∀ c : Int, G t b * c / G t b = c := fun c => Int.mul_ediv_cancel_left c (by omega)
  have hc : Int.gcd p q = 1 := by
    have e : Int.gcd (G t b * p) (G t b * q) = (G t b).natAbs * Int.gcd p q := Int.gcd_mul_left ..
    rw [← hp, ← hq] at e
    have e2 : (G t b).natAbs = Int.gcd t b := by unfold G; simp
    rw [e2] at e
    have hpos : 0 < Int.gcd t b := Int.gcd_pos_of_ne_zero_right t h
    exact Nat.eq_of_mul_eq_mul_left hpos (by omega)
  unfold Nu De
  by_cases hb : 0 < b
  · rw [if_pos hb, if_pos hb]
    have e1 : t / G t b = p := by
      have z := gp p
      rw [← hp] at z
      exact z
    have e2 : b / G t b = q := by
      have z := gp q
      rw [← hq] at z
      exact z
    rw [e1, e2]
    refine ⟨?_, hc⟩
    have : 0 < G t b * q := by rw [← hq]; exact hb
    exact pos_of_mul hg this
  · rw [if_neg hb, if_neg hb]
    have e1 : -t / G t b = -p := by
      have z := gp (-p)
      rw [Int.mul_neg, ← hp] at z
      exact z
    have e2 : -b / G t b = -q := by
      have z := gp (-q)
      rw [Int.mul_neg, ← hq] at z
      exact z
    rw [e1, e2]
    refine ⟨?_, by rw [Int.gcd_neg, Int.neg_gcd]; exact hc⟩
    have : 0 < G t b * (-q) := by rw [Int.mul_neg, ← hq]; omega
    exact pos_of_mul hg this
theorem nu_le (t b : Int) (h : b ≠ 0) : (Nu t b).natAbs ≤ t.natAbs := by
  have hg := G_pos (t := t) h
  unfold Nu
  split
  · exact Int.natAbs_ediv_le_natAbs ..
  · have := Int.natAbs_ediv_le_natAbs (-t) (G t b)
    omega
theorem de_le (t b : Int) (h : b ≠ 0) : (De t b).natAbs ≤ b.natAbs := by
  unfold De
  split
  · exact Int.natAbs_ediv_le_natAbs ..
  · have := Int.natAbs_ediv_le_natAbs (-b) (G t b)
    omega
theorem g_le (t b : Int) (h : b ≠ 0) : (G t b).natAbs ≤ b.natAbs := by
  have := Int.le_of_dvd (show (0 : Int) < b.natAbs by omega) (show G t b ∣ (b.natAbs : Int) from by
    rw [Int.dvd_natAbs]
    exact G_dr t b)
  have := G_pos (t := t) h
  omega
/-- floors are of the fraction, not of its writing -/
theorem fdiv_nu {x y : Int} (h : y ≠ 0) : x.fdiv y = Nu x y / De x y := by
  have hg := G_pos (t := x) h
  obtain ⟨p, hp⟩ := G_dl x y
  obtain ⟨q, hq⟩ := G_dr x y
  have gp : ∀ c : Int, G x y * c / G x y = c := fun c => Int.mul_ediv_cancel_left c (by omega)
  have e1 : x / G x y = p := by
    have z := gp p
    rw [← hp] at z
    exact z
  have e2 : y / G x y = q := by
    have z := gp q
    rw [← hq] at z
    exact z
  have e3 : -x / G x y = -p := by
    have z := gp (-p)
    rw [Int.mul_neg, ← hp] at z
    exact z
  have e4 : -y / G x y = -q := by
    have z := gp (-q)
    rw [Int.mul_neg, ← hq] at z
    exact z
  unfold Nu De
  by_cases hy : 0 < y
  · rw [if_pos hy, if_pos hy, e1, e2, Int.fdiv_eq_ediv_of_nonneg x (by omega)]
    have z := Int.mul_ediv_mul_of_pos p q hg
    rw [← hp, ← hq] at z
    exact z
  · rw [if_neg hy, if_neg hy, e3, e4]
    have k : x.fdiv y = (-x).fdiv (-y) := (Int.neg_fdiv_neg x y).symm
    rw [k, Int.fdiv_eq_ediv_of_nonneg (-x) (by omega)]
    have z := Int.mul_ediv_mul_of_pos (-p) (-q) hg
    rw [Int.mul_neg, Int.mul_neg, ← hp, ← hq] at z
    exact z
end Ly

namespace Ly
open PySem PySem.Spec PyProof.Rows L2
section
variable {σ : L2.St} {H H' : Hp} {Q : VK} {K : PySem.W.Frag} {v x y : V} {ta tb te : TE} {t u : TA} {i j : Int} {D : Ends} {C : Addr} {sp : Sp} {m : Str}
theorem i_drop (q : te σ H fun _ H1 => D.nx σ H1) : tDrop te D σ H := q
theorem i_not {tt : TT} {Q : Bool → Hp → Prop} (q : tt σ H fun c H1 => Q (!c) H1) : tNot tt σ H Q := q
theorem i_or {tt uu : TT} {Q : Bool → Hp → Prop} (q : tt σ H fun c H1 => if c = true then Q true H1 else uu σ H1 Q) : tOr tt uu σ H Q := q
theorem i_and {tt uu : TT} {Q : Bool → Hp → Prop} (q : tt σ H fun c H1 => if c = true then uu σ H1 Q else Q false H1) : tAnd tt uu σ H Q := q
theorem i_tb {Q : Bool → Hp → Prop} (q : te σ H fun x H1 => ∃ c, x = .bl c ∧ Q c H1) : tB te σ H Q := q
theorem i_andV (q : ta σ H fun x H1 => ∃ c, x = .bl c ∧ if c = true then tb σ H1 Q else Q (.bl false) H1) : tAndV ta tb σ H Q := q
theorem i_orV (q : ta σ H fun x H1 => ∃ c, x = .bl c ∧ if c = true then Q (.bl true) H1 else tb σ H1 Q) : tOrV ta tb σ H Q := q
theorem i_notV (q : ta σ H fun x H1 => ∃ c, x = .bl c ∧ Q (.bl (!c)) H1) : tNotV ta σ H Q := q
theorem i_ifx {tt : TT} (q : tt σ H fun c H1 => if c = true then ta σ H1 Q else tb σ H1 Q) : tIf tt ta tb σ H Q := q
theorem i_ext {P : Bool → Prop} (h : P true) : ∃ c, V.bl true = V.bl c ∧ P c := ⟨true, rfl, h⟩
theorem i_exf {P : Bool → Prop} (h : P false) : ∃ c, V.bl false = V.bl c ∧ P c := ⟨false, rfl, h⟩
theorem i_exn {b : Bool} {P : Bool → Prop} (h : P b) : ∃ c, V.bl b = V.bl c ∧ P c := ⟨b, rfl, h⟩
theorem i_itt {A B : Prop} (h : A) : if true = true then A else B := iteT h
theorem i_itf {A B : Prop} (h : B) : if false = true then A else B := iteF h
theorem i_nt {A B : Prop} (h : B) : if (!true) = true then A else B := iteF h
theorem i_nf {A B : Prop} (h : A) : if (!false) = true then A else B := iteT h
theorem i_ndec {p A B : Prop} [Decidable p] (h1 : p → B) (h2 : ¬ p → A) : if (!decide p) = true then A else B := by
  by_cases h : p
  · rw [decide_eq_true h]
    exact iteF (h1 h)
  · rw [decide_eq_false h]
    exact iteT (h2 h)
theorem i_gcd {a b : Int} (q : Q (.int (G a b)) H) : rGcd [.int a, .int b] H Q := ⟨a, b, rfl, q⟩
def rFld (K : PySem.W.Frag) (f : Str) : V → Hp → VK → Prop := fun x H1 Q => ∃ a C dx fs v, x = .ref a ∧ H1 a = some (.ins C dx fs) ∧ Cls K C ∧ NoAttr K C f ∧ fs.lookup f = some v ∧ Q v H1
theorem i_fld {f : Str} (q : ta σ H fun x H1 => rFld K f x H1 Q) : tFld K ta f σ H Q := q
def rSFld (K : PySem.W.Frag) (f : Str) (y x : V) (H2 : Hp) (q : Hp → Prop) : Prop := ∃ a C dx fs, x = .ref a ∧ H2 a = some (.ins C dx fs) ∧ Cls K C ∧ NoAttr K C f ∧ fs.length < 1000 ∧ q (upd H2 a (.ins C dx (putF f y fs)))
theorem i_sfld {f : Str} (q : tb σ H fun y H1 => ta σ H1 fun x H2 => rSFld K f y x H2 (D.nx σ)) : sFld K ta tb f D σ H := q
def rPp (C : Addr) (sp : Sp) : V → Hp → VK → Prop := fun x H1 Q => ∃ a dx fs, x = .ref a ∧ H1 a = some (.ins C dx fs) ∧ sp [.ref a] H1 Q E0
theorem i_pp (q : ta σ H fun x H1 => rPp C sp x H1 Q) : tProp C sp [] E0 ta σ H Q := q
def rMeth (C : Addr) (m : Str) (σ : L2.St) (t : TA) (sp : Sp) : V → Hp → VK → Prop := fun x H1 Q => ∃ a dx fs, x = .ref a ∧ H1 a = some (.ins C dx fs) ∧ fs.lookup m = none ∧ t σ H1 fun vs H2 => sp (x :: vs) H2 Q E0
theorem i_meth (q : ta σ H fun x H1 => rMeth C m σ t sp x H1 Q) : tMeth C m sp [] E0 ta t σ H Q := by
  have e : (fun (x : V) (H1 : Hp) => rMeth C m σ t sp x H1 Q) = fun x H1 => ∃ a dx fs, x = .ref a ∧ H1 a = some (.ins C dx fs) ∧ fs.lookup m = none ∧ t σ H1 fun vs H2 => sp (x :: (vs ++ [])) H2 Q E0 := by
    funext x H1
    simp only [rMeth, List.append_nil]
  rw [e] at q
  exact q
theorem i_smeth (q : t σ H fun vs H2 => sp vs H2 Q E0) : tSMeth C sp [] (tC (.ref C)) t σ H Q := by
  refine ⟨rfl, ?_⟩
  simpa only [List.append_nil] using q
def rMake (C : Addr) (sp : Sp) (dvs : List V) : List V → Hp → VK → Prop := fun vs H1 Q => ∀ x dx, H1 x = none → H1 dx = none → dx ≠ x → sp (.ref x :: (vs ++ dvs)) (upd (upd H1 dx (.own x)) x (.ins C dx [])) (fun v H2 => v = .non ∧ Q (.ref x) H2) E0
theorem i_make {dvs : List V} (q : t σ H fun vs H1 => rMake C sp dvs vs H1 Q) : tMake C sp dvs E0 t σ H Q := q
theorem i_par {n k : Nat} {v w : V} (q : D.nx ((σ.set n (some v)).set k (some w)) H) : (∃ a b, [v, w] = [a, b] ∧ D.nx ((σ.set n (some a)).set k (some b)) H) := ⟨v, w, rfl, q⟩
def rPar (n k : Nat) (σ : L2.St) (nx : L2.St → Hp → Prop) : List V → Hp → Prop := fun vs H1 => ∃ v w, vs = [v, w] ∧ nx ((σ.set n (some v)).set k (some w)) H1
theorem i_tpar {n k : Nat} (q : t σ H fun vs H1 => rPar n k σ D.nx vs H1) : tPar n k t D σ H := q
theorem i_rpar {n k : Nat} {nx : L2.St → Hp → Prop} {v w : V} (q : nx ((σ.set n (some v)).set k (some w)) H) : rPar n k σ nx [v, w] H := ⟨v, w, rfl, q⟩
theorem i_isi {T n : String} {b : Bool} (ty : TyX K H x (.type T)) (k : kitB T n = some b) (q : Q (.bl b) H) : rIsi K [x, .ty n] H Q := ⟨x, .ty n, .type T, .type n, b, rfl, .ty n, ty, kit_ty k, q⟩
theorem i_isiO {tv : Value} {b : Bool} (ty : TyX K H x tv) (k : PySem.W.kitOne K tv (.ref C) = some b) (q : Q (.bl b) H) : rIsi K [x, .ref C] H Q := ⟨x, .ref C, tv, .ref C, b, rfl, .own C, ty, k, q⟩
end
/-- // by a divisor of either sign, below 2 ^ 9000 -/
def CDivX (_ j : Int) : Prop := j ≠ 0 ∧ j.natAbs.log2 < 9000
theorem op_fdivX {X : Cx} : OpR X (binaryOp .FloorDiv) (rI CDivX fun i j => .int (i.fdiv j)) := opI fun _ _ _ _ _ _ _ hc q => floordiv_int hc.1 q (.inl (PyProof.noPylong_of_log2 hc.2))
theorem cdivx {i j : Int} (h : j ≠ 0) {b : Nat} (hb : j.natAbs < 2 ^ b) (h0 : 0 < b) (h9 : b ≤ 9000) : CDivX i j := ⟨h, Nat.lt_of_lt_of_le (PySem.Flt.log2_lt_of h0 hb) h9⟩

/-! ### Ratios in the heap -/
def flds (t b : Int) : List (Str × V) := [("_top", .int t), ("_bottom", .int b)]
def RatAt (C : Addr) (H : Hp) (a : Addr) (t b : Int) : Prop := ∃ dx, H a = some (.ins C dx (flds t b))
theorem RatAt.same {C : Addr} {H H' : Hp} {a : Addr} {t b : Int} (s : Same H H') (r : RatAt C H a t b) : RatAt C H' a t b := by
  obtain ⟨dx, e⟩ := r
  exact ⟨dx, s _ _ e⟩
/-- a number: an int, or a Ratio -/
def Num (C : Addr) (H : Hp) (v : V) (t b : Int) : Prop := (v = .int t ∧ b = 1) ∨ ∃ a, v = .ref a ∧ RatAt C H a t b
theorem Num.same {C : Addr} {H H' : Hp} {v : V} {t b : Int} (s : Same H H') (r : Num C H v t b) : Num C H' v t b := by
  rcases r with r | ⟨a, e, r⟩
  · exact .inl r
  · exact .inr ⟨a, e, r.same s⟩
theorem bot_top : ¬ (("_bottom" : Str) = "_top") := by decide +kernel
theorem flds_top (t b : Int) : (flds t b).lookup ("_top" : Str) = some (.int t) := by
  unfold flds
  simp [List.lookup]
theorem flds_bot (t b : Int) : (flds t b).lookup ("_bottom" : Str) = some (.int b) := by
  have e : (("_bottom" : Str) == ("_top" : Str)) = false := by simpa using bot_top
  unfold flds
  simp [List.lookup, e]
theorem flds_no (t b : Int) {m : Str} (h1 : ¬ m = "_top") (h2 : ¬ m = "_bottom") : (flds t b).lookup m = none := by
  have e1 : (m == ("_top" : Str)) = false := by simpa using h1
  have e2 : (m == ("_bottom" : Str)) = false := by simpa using h2
  unfold flds
  simp [List.lookup, e1, e2]
theorem put_flds (t b : Int) : putF "_bottom" (.int b) (putF "_top" (.int t) []) = flds t b := by
  show (if ("_top" : Str) = "_bottom" then _ else (("_top" : Str), V.int t) :: putF "_bottom" (.int b) []) = flds t b
  rw [if_neg (fun z => bot_top z.symm)]
  rfl
section
variable {C a : Addr} {H : Hp} {Q : VK} {K : PySem.W.Frag} {t b : Int} {v : V}
theorem i_rtop (r : RatAt C H a t b) (c : Cls K C) (n : NoAttr K C "_top") (q : Q (.int t) H) : rFld K "_top" (.ref a) H Q := by
  obtain ⟨dx, e⟩ := r
  exact ⟨a, C, dx, _, _, rfl, e, c, n, flds_top t b, q⟩
theorem i_rbot (r : RatAt C H a t b) (c : Cls K C) (n : NoAttr K C "_bottom") (q : Q (.int b) H) : rFld K "_bottom" (.ref a) H Q := by
  obtain ⟨dx, e⟩ := r
  exact ⟨a, C, dx, _, _, rfl, e, c, n, flds_bot t b, q⟩
theorem i_rpp {sp : Sp} (r : RatAt C H a t b) (q : sp [.ref a] H Q E0) : rPp C sp (.ref a) H Q := by
  obtain ⟨dx, e⟩ := r
  exact ⟨a, dx, _, rfl, e, q⟩
theorem i_rmeth {m : Str} {σ : L2.St} {tt : TA} {sp : Sp} (r : RatAt C H a t b) (h1 : ¬ m = "_top") (h2 : ¬ m = "_bottom") (q : tt σ H fun vs H2 => sp (.ref a :: vs) H2 Q E0) : rMeth C m σ tt sp (.ref a) H Q := by
  obtain ⟨dx, e⟩ := r
  exact ⟨a, dx, _, rfl, e, flds_no t b h1 h2, q⟩
/-- what Ratio's constructor promises -/
def spInit (C : Addr) : Sp := fun vs H Q _ => ∃ (x dx : Addr) (t b : Int), vs = [.ref x, .int t, .int b] ∧ H x = some (.ins C dx []) ∧ b ≠ 0 ∧ t.natAbs < 2 ^ 8900 ∧ b.natAbs < 2 ^ 8900 ∧
  ∀ H', H' x = some (.ins C dx (flds (Nu t b) (De t b))) → (∀ c o, c ≠ x → H c = some o → H' c = some o) → Q .non H'
theorem i_mk2 {t b : Int} (hb : b ≠ 0) (z1 : t.natAbs < 2 ^ 8900) (z2 : b.natAbs < 2 ^ 8900) (q : ∀ x H', H x = none → Same H H' → RatAt C H' x (Nu t b) (De t b) → Q (.ref x) H') : rMake C (spInit C) [] [.int t, .int b] H Q := by
  intro x dx nx nd ne
  refine ⟨x, dx, t, b, rfl, upd_same, hb, z1, z2, fun H' h1 h2 => ⟨rfl, ?_⟩⟩
  refine q x H' nx (fun c o e => h2 c o (ne_of_none e nx) ?_) ⟨dx, h1⟩
  rw [upd_ne (ne_of_none e nx), upd_ne (ne_of_none e nd)]
  exact e
theorem i_mk1 {t : Int} (z1 : t.natAbs < 2 ^ 8900) (q : ∀ x H', H x = none → Same H H' → RatAt C H' x t 1 → Q (.ref x) H') : rMake C (spInit C) [.int 1] [.int t] H Q := by
  intro x dx nx nd ne
  refine ⟨x, dx, t, 1, rfl, upd_same, by decide, z1, Nat.one_lt_two_pow (by decide), fun H' h1 h2 => ⟨rfl, ?_⟩⟩
  rw [(lo_int t).nu, (lo_int t).de] at h1
  refine q x H' nx (fun c o e => h2 c o (ne_of_none e nx) ?_) ⟨dx, h1⟩
  rw [upd_ne (ne_of_none e nx), upd_ne (ne_of_none e nd)]
  exact e
end

/-! ### sizes -/
def Sz (n : Nat) (x : Int) : Prop := x.natAbs < 2 ^ n
theorem sz_mono {n m : Nat} {x : Int} (h : Sz n x) (k : n ≤ m) : Sz m x := Nat.lt_of_lt_of_le h (Nat.pow_le_pow_right (by decide) k)
theorem sz_le {n : Nat} {x y : Int} (h : Sz n x) (k : y.natAbs ≤ x.natAbs) : Sz n y := Nat.lt_of_le_of_lt k h
theorem sz_mul {n m : Nat} {x y : Int} (h : Sz n x) (k : Sz m y) : Sz (n + m) (x * y) := wide_lt h k
theorem sz_add {n : Nat} {x y : Int} (h : Sz n x) (k : Sz n y) : Sz (n + 1) (x + y) := by
  unfold Sz at *
  rw [Nat.pow_succ]
  omega
theorem sz_sub {n : Nat} {x y : Int} (h : Sz n x) (k : Sz n y) : Sz (n + 1) (x - y) := by
  unfold Sz at *
  rw [Nat.pow_succ]
  omega
theorem sz_neg {n : Nat} {x : Int} (h : Sz n x) : Sz n (-x) := by
  unfold Sz at *
  omega
theorem sz_nu {n : Nat} {t b : Int} (hb : b ≠ 0) (h : Sz n t) : Sz n (Nu t b) := sz_le h (nu_le t b hb)
theorem sz_de {n : Nat} {t b : Int} (hb : b ≠ 0) (h : Sz n b) : Sz n (De t b) := sz_le h (de_le t b hb)
theorem cmul_sz {n m : Nat} {x y : Int} (h : Sz n x) (k : Sz m y) (h0 : 0 < n := by decide) (h1 : 0 < m := by decide) (h2 : n + m ≤ 1000000 := by decide) : CMulW x y := wide_mul h k h0 h1 h2
theorem cdivx_sz {n : Nat} {x y : Int} (h : y ≠ 0) (k : Sz n y) (h0 : 0 < n := by decide) (h9 : n ≤ 9000 := by decide) : CDivX x y := cdivx h k h0 h9
theorem sz_1 {n : Nat} (h : 0 < n := by decide) : Sz n 1 := Nat.one_lt_two_pow (by omega)
theorem sz_ediv {n : Nat} {x y : Int} (h : Sz n x) : Sz n (x / y) := sz_le h (Int.natAbs_ediv_le_natAbs ..)

/-! ### promises of Ratio's methods -/
section
variable {H : Hp} {Q : VK} {E : XK} {C : Addr} {i : Int}
def spIsInt : Sp := fun vs H Q _ => ∃ i : Int, vs = [.int i] ∧ Q (.bl true) H
theorem i_isint (q : Q (.bl true) H) : spIsInt [.int i] H Q E := ⟨i, rfl, q⟩
def spOf (C : Addr) : Sp := fun vs H Q _ => ∃ (v : V) (t b : Int), vs = [v] ∧ Num C H v t b ∧ Sz 4000 t ∧ ∀ r H', Same H H' → RatAt C H' r t b → Q (.ref r) H'
theorem i_of {v : V} {t b : Int} (n : Num C H v t b) (z : Sz 4000 t) (q : ∀ r H', Same H H' → RatAt C H' r t b → Q (.ref r) H') : spOf C [v] H Q E := ⟨v, t, b, rfl, n, z, q⟩
def spTop (C : Addr) : Sp := fun vs H Q _ => ∃ (x : Addr) (t b : Int), vs = [.ref x] ∧ RatAt C H x t b ∧ Q (.int t) H
theorem i_top {x : Addr} {t b : Int} (r : RatAt C H x t b) (q : Q (.int t) H) : spTop C [.ref x] H Q E := ⟨x, t, b, rfl, r, q⟩
def spBot (C : Addr) : Sp := fun vs H Q _ => ∃ (x : Addr) (t b : Int), vs = [.ref x] ∧ RatAt C H x t b ∧ Q (.int b) H
theorem i_bot {x : Addr} {t b : Int} (r : RatAt C H x t b) (q : Q (.int b) H) : spBot C [.ref x] H Q E := ⟨x, t, b, rfl, r, q⟩
/-- a number as the methods want it -/
structure Ok4 (t b : Int) : Prop where
  lo : Lo t b
  zt : Sz 4000 t
  zb : Sz 4000 b
/-- one op other, both numbers: a new Ratio -/
def spBin (C : Addr) (nu de : Int → Int → Int → Int → Int) : Sp := fun vs H Q _ => ∃ (x : Addr) (v : V) (t b t2 b2 : Int), vs = [.ref x, v] ∧ RatAt C H x t b ∧ Ok4 t b ∧ Num C H v t2 b2 ∧ Ok4 t2 b2 ∧
  ∀ r H', H r = none → Same H H' → RatAt C H' r (Nu (nu t b t2 b2) (de t b t2 b2)) (De (nu t b t2 b2) (de t b t2 b2)) → Q (.ref r) H'
theorem i_bin {nu de : Int → Int → Int → Int → Int} {x : Addr} {v : V} {t b t2 b2 : Int} (h1 : RatAt C H x t b) (h2 : Ok4 t b) (h3 : Num C H v t2 b2) (h4 : Ok4 t2 b2)
    (q : ∀ r H', H r = none → Same H H' → RatAt C H' r (Nu (nu t b t2 b2) (de t b t2 b2)) (De (nu t b t2 b2) (de t b t2 b2)) → Q (.ref r) H') : spBin C nu de [.ref x, v] H Q E := ⟨x, v, t, b, t2, b2, rfl, h1, h2, h3, h4, q⟩
/-- the reflected one: the other side an int -/
def spRev (C : Addr) (nu de : Int → Int → Int → Int → Int) : Sp := fun vs H Q _ => ∃ (x : Addr) (i t b : Int), vs = [.ref x, .int i] ∧ RatAt C H x t b ∧ Ok4 t b ∧ Sz 4000 i ∧
  ∀ r H', H r = none → Same H H' → RatAt C H' r (Nu (nu i 1 t b) (de i 1 t b)) (De (nu i 1 t b) (de i 1 t b)) → Q (.ref r) H'
theorem i_rev {nu de : Int → Int → Int → Int → Int} {x : Addr} {i t b : Int} (h1 : RatAt C H x t b) (h2 : Ok4 t b) (h3 : Sz 4000 i)
    (q : ∀ r H', H r = none → Same H H' → RatAt C H' r (Nu (nu i 1 t b) (de i 1 t b)) (De (nu i 1 t b) (de i 1 t b)) → Q (.ref r) H') : spRev C nu de [.ref x, .int i] H Q E := ⟨x, i, t, b, rfl, h1, h2, h3, q⟩
end
/-- one number: a new Ratio of another top -/
def spUn (C : Addr) (f : Int → Int) : Sp := fun vs H Q _ => ∃ (x : Addr) (t b : Int), vs = [.ref x] ∧ RatAt C H x t b ∧ Ok4 t b ∧ ∀ r H', H r = none → Same H H' → RatAt C H' r (Nu (f t) b) (De (f t) b) → Q (.ref r) H'
def spInt (C : Addr) (f : Int → Int → Int) : Sp := fun vs H Q _ => ∃ (x : Addr) (t b : Int), vs = [.ref x] ∧ RatAt C H x t b ∧ 0 < b ∧ Sz 8900 b ∧ Q (.int (f t b)) H
def cmpI (t b t2 b2 : Int) : Int := if t * b2 < t2 * b then -1 else if t2 * b < t * b2 then 1 else 0
def spCmp (C : Addr) : Sp := fun vs H Q _ => ∃ (x : Addr) (v : V) (t b t2 b2 : Int), vs = [.ref x, v] ∧ RatAt C H x t b ∧ Ok4 t b ∧ Num C H v t2 b2 ∧ Ok4 t2 b2 ∧ ∀ H', Same H H' → Q (.int (cmpI t b t2 b2)) H'
theorem sz_absI {n : Nat} {t : Int} (z : Sz n t) : Sz n (if t < 0 then -t else t) := by
  unfold Sz at *
  split <;> omega
def aN (t b t2 b2 : Int) : Int := t * b2 + t2 * b
def sN (t b t2 b2 : Int) : Int := t * b2 - t2 * b
def mN (t _ t2 _ : Int) : Int := t * t2
def dD (_ b _ b2 : Int) : Int := b * b2
def oN (t _ _ b2 : Int) : Int := t * b2
def oD (_ b t2 _ : Int) : Int := b * t2
theorem ok_int {i : Int} (z : Sz 4000 i) : Ok4 i 1 := ⟨lo_int i, z, sz_1⟩
def spOver (C : Addr) : Sp := fun vs H Q _ => ∃ (x : Addr) (v : V) (t b t2 b2 : Int), vs = [.ref x, v] ∧ RatAt C H x t b ∧ Ok4 t b ∧ Num C H v t2 b2 ∧ Ok4 t2 b2 ∧ t2 ≠ 0 ∧
  ∀ r H', H r = none → Same H H' → RatAt C H' r (Nu (oN t b t2 b2) (oD t b t2 b2)) (De (oN t b t2 b2) (oD t b t2 b2)) → Q (.ref r) H'
end Ly

namespace Ly
open PySem PySem.Spec PyProof.Rows L2
/-! ### an operator by a method of the class, from either side -/
section
variable {X : Cx} {k j : Nat} {C : Addr} {x m : Str} {sp spR : Sp} {op : Operator}
theorem opm2 (h : Mt ⟨X.prog, X.w, X.K, X.mg, X.base⟩ k C m sp) (o : OwnC X.K X.mg x C) (hr : Room j X.A) (hk : k ≤ j) (e : PySem.dunder op.info.2 = m) : OpR X (binaryOp op) (rOwn2 C sp) := by
  subst e
  obtain ⟨f, fd, ps, hm, F, b⟩ := h.ex
  exact op_own2 F (hr.mono hk) b hm.at_ hm.fn o.sf
theorem opmI (h : Mt ⟨X.prog, X.w, X.K, X.mg, X.base⟩ k C m sp) (o : OwnC X.K X.mg x C) (hr : Room j X.A) (hk : k ≤ j) (e : PySem.dunder op.info.2 = m) {rc : Option Value} (hrc : PySem.W.findIn X.K (.ref C) (dunderR op.info.2) = some rc) (hp : rc = none ∨ ∃ g : Addr, rc = some (.ref g))
    {fo ro : Option Value} (h1 : PySem.W.findIn X.K (.type "int") (PySem.dunder op.info.2) = some fo) (h2 : PySem.W.findIn X.K (.type "int") (dunderR op.info.2) = some ro) : OpR X (binaryOp op) (rOwnI C sp) := by
  subst e
  obtain ⟨f, fd, ps, hm, F, b⟩ := h.ex
  exact op_ownI F (hr.mono hk) b hm.at_ hm.fn o.sf hrc hp h1 h2 o.sI
theorem opIm {id : String} {B : Builtin} (io : IntOp op.info.2 id B) (h : Mt ⟨X.prog, X.w, X.K, X.mg, X.base⟩ k C m spR) (o : OwnC X.K X.mg x C) (hr : Room j X.A) (hk : k ≤ j) (e : dunderR op.info.2 = m) {g : Addr} (hl : PySem.W.findIn X.K (.ref C) (PySem.dunder op.info.2) = some (some (.ref g)))
    {fo ro : Option Value} (h1 : PySem.W.findIn X.K (.type "int") (PySem.dunder op.info.2) = some fo) (h2 : PySem.W.findIn X.K (.type "int") (dunderR op.info.2) = some ro) (h12 : ((fo.isSome && !isSeqSlot fo) || (ro.isSome && !isSeqSlot ro)) = true) : OpR X (binaryOp op) (rIOwn C spR) := by
  subst e
  obtain ⟨f, fd, ps, hm, F, b⟩ := h.ex
  exact op_Iown io F (hr.mono hk) b hm.at_ hm.fn o.sf hl h1 h2 h12 o.sI'
def rNumOp (C : Addr) (sp spR : Sp) : R2 := rOr (rOwn2 C sp) (rOr (rOwnI C sp) (rIOwn C spR))
/-- from both methods -/
theorem op_num {id : String} {B : Builtin} {k' : Nat} {m' : Str} (io : IntOp op.info.2 id B) (h : Mt ⟨X.prog, X.w, X.K, X.mg, X.base⟩ k C m sp) (h' : Mt ⟨X.prog, X.w, X.K, X.mg, X.base⟩ k' C m' spR) (o : OwnC X.K X.mg x C) (hr : Room j X.A) (hk : k ≤ j) (hk' : k' ≤ j) (e : PySem.dunder op.info.2 = m) (e' : dunderR op.info.2 = m')
    {fo ro : Option Value} (h1 : PySem.W.findIn X.K (.type "int") (PySem.dunder op.info.2) = some fo) (h2 : PySem.W.findIn X.K (.type "int") (dunderR op.info.2) = some ro) (h12 : ((fo.isSome && !isSeqSlot fo) || (ro.isSome && !isSeqSlot ro)) = true) : OpR X (binaryOp op) (rNumOp C sp spR) := by
  obtain ⟨f, fd, ps, hm, F, b⟩ := _root_.id h.ex
  obtain ⟨f', fd', ps', hm', F', b'⟩ := _root_.id h'.ex
  refine opr_or (opm2 h o hr hk e) (opr_or (opmI h o hr hk e (rc := some (.ref f')) ?_ (.inr ⟨f', rfl⟩) h1 h2) (opIm io h' o hr hk' e' (g := f) ?_ h1 h2 h12))
  · rw [e']
    exact hm'.at_
  · rw [e]
    exact hm.at_
end
theorem op_addN {X : Cx} {C : Addr} {x : Str} {k k' j : Nat} {sp spR : Sp} (h : Mt ⟨X.prog, X.w, X.K, X.mg, X.base⟩ k C "__add__" sp) (h' : Mt ⟨X.prog, X.w, X.K, X.mg, X.base⟩ k' C "__radd__" spR) (o : OwnC X.K X.mg x C) (hr : Room j X.A) (hk : k ≤ j) (hk' : k' ≤ j) : OpR X (binaryOp .Add) (rNumOp C sp spR) :=
  op_num (op := .Add) io_add h h' o hr hk hk' (by decide +kernel) (by decide +kernel) (fo := some (.builtin "int.__add__")) (ro := some (.builtin "int.__radd__")) (by with_unfolding_all rfl) (by with_unfolding_all rfl) (by decide +kernel)
theorem op_subN {X : Cx} {C : Addr} {x : Str} {k k' j : Nat} {sp spR : Sp} (h : Mt ⟨X.prog, X.w, X.K, X.mg, X.base⟩ k C "__sub__" sp) (h' : Mt ⟨X.prog, X.w, X.K, X.mg, X.base⟩ k' C "__rsub__" spR) (o : OwnC X.K X.mg x C) (hr : Room j X.A) (hk : k ≤ j) (hk' : k' ≤ j) : OpR X (binaryOp .Sub) (rNumOp C sp spR) :=
  op_num (op := .Sub) io_sub h h' o hr hk hk' (by decide +kernel) (by decide +kernel) (fo := some (.builtin "int.__sub__")) (ro := some (.builtin "int.__rsub__")) (by with_unfolding_all rfl) (by with_unfolding_all rfl) (by decide +kernel)
theorem op_mulN {X : Cx} {C : Addr} {x : Str} {k k' j : Nat} {sp spR : Sp} (h : Mt ⟨X.prog, X.w, X.K, X.mg, X.base⟩ k C "__mul__" sp) (h' : Mt ⟨X.prog, X.w, X.K, X.mg, X.base⟩ k' C "__rmul__" spR) (o : OwnC X.K X.mg x C) (hr : Room j X.A) (hk : k ≤ j) (hk' : k' ≤ j) : OpR X (binaryOp .Mult) (rNumOp C sp spR) :=
  op_num (op := .Mult) io_mul h h' o hr hk hk' (by decide +kernel) (by decide +kernel) (fo := some (.builtin "int.__mul__")) (ro := some (.builtin "int.__rmul__")) (by with_unfolding_all rfl) (by with_unfolding_all rfl) (by decide +kernel)
theorem op_fdN {X : Cx} {C : Addr} {x : Str} {k k' j : Nat} {sp spR : Sp} (h : Mt ⟨X.prog, X.w, X.K, X.mg, X.base⟩ k C "__floordiv__" sp) (h' : Mt ⟨X.prog, X.w, X.K, X.mg, X.base⟩ k' C "__rfloordiv__" spR) (o : OwnC X.K X.mg x C) (hr : Room j X.A) (hk : k ≤ j) (hk' : k' ≤ j) : OpR X (binaryOp .FloorDiv) (rNumOp C sp spR) :=
  op_num (op := .FloorDiv) io_fd h h' o hr hk hk' (by decide +kernel) (by decide +kernel) (fo := some (.builtin "int.__floordiv__")) (ro := some (.builtin "int.__rfloordiv__")) (by with_unfolding_all rfl) (by with_unfolding_all rfl) (by decide +kernel)
theorem op_mdN {X : Cx} {C : Addr} {x : Str} {k k' j : Nat} {sp spR : Sp} (h : Mt ⟨X.prog, X.w, X.K, X.mg, X.base⟩ k C "__mod__" sp) (h' : Mt ⟨X.prog, X.w, X.K, X.mg, X.base⟩ k' C "__rmod__" spR) (o : OwnC X.K X.mg x C) (hr : Room j X.A) (hk : k ≤ j) (hk' : k' ≤ j) : OpR X (binaryOp .Mod) (rNumOp C sp spR) :=
  op_num (op := .Mod) io_mod h h' o hr hk hk' (by decide +kernel) (by decide +kernel) (fo := some (.builtin "int.__mod__")) (ro := some (.builtin "int.__rmod__")) (by with_unfolding_all rfl) (by with_unfolding_all rfl) (by decide +kernel)

/-! ### promises with a condition and any end -/
abbrev Q4 := Int → Int → Int → Int → Prop
abbrev P4 := Int → Int → Int → Int → Hp → VK → Prop
def spBinG (C : Addr) (pre : Q4) (post : P4) : Sp := fun vs H Q _ => ∃ (x : Addr) (v : V) (t b t2 b2 : Int), vs = [.ref x, v] ∧ RatAt C H x t b ∧ Ok4 t b ∧ Num C H v t2 b2 ∧ Ok4 t2 b2 ∧ pre t b t2 b2 ∧ post t b t2 b2 H Q
def spRevG (C : Addr) (pre : Q4) (post : P4) : Sp := fun vs H Q _ => ∃ (x : Addr) (i t b : Int), vs = [.ref x, .int i] ∧ RatAt C H x t b ∧ Ok4 t b ∧ Sz 4000 i ∧ pre i 1 t b ∧ post i 1 t b H Q
/-- a new Ratio | an int -/
def pR (C : Addr) (nu de : Int → Int → Int → Int → Int) : P4 := fun t b t2 b2 H Q => ∀ r H', H r = none → Same H H' → RatAt C H' r (Nu (nu t b t2 b2) (de t b t2 b2)) (De (nu t b t2 b2) (de t b t2 b2)) → Q (.ref r) H'
def pI (f : Int → Int → Int → Int → Int) : P4 := fun t b t2 b2 H Q => ∀ H', Same H H' → Q (.int (f t b t2 b2)) H'
section
variable {H : Hp} {Q : VK} {E : XK} {C : Addr} {x y : V} {t b t2 b2 : Int}
theorem Num.ok (n : Num C H x t b) (z : Sz 4000 t) (h : ∀ a, x = .ref a → Ok4 t b) : Ok4 t b := by
  rcases n with ⟨e, rfl⟩ | ⟨a, e, r⟩
  · exact ok_int z
  · exact h a e
theorem i_numG {pre : Q4} {post : P4} (hx : Num C H x t b) (hy : Num C H y t2 b2) (o : Ok4 t b) (o2 : Ok4 t2 b2) (h : (∃ a, x = .ref a) ∨ ∃ a, y = .ref a) (p : pre t b t2 b2) (q : post t b t2 b2 H Q) : rNumOp C (spBinG C pre post) (spRevG C pre post) x y H Q := by
  rcases hx with ⟨rfl, rfl⟩ | ⟨a, rfl, ra⟩
  · rcases hy with ⟨rfl, rfl⟩ | ⟨c, rfl, rc⟩
    · rcases h with ⟨_, z⟩ | ⟨_, z⟩ <;> cases z
    · obtain ⟨dx, e⟩ := id rc
      exact .inr (.inr ⟨c, t, dx, _, rfl, rfl, e, c, t, t2, b2, rfl, rc, o2, o.zt, p, q⟩)
  · obtain ⟨dx, e⟩ := id ra
    rcases id hy with ⟨rfl, rfl⟩ | ⟨c, rfl, rc⟩
    · exact .inr (.inl ⟨a, t2, dx, _, rfl, rfl, e, a, .int t2, t, b, t2, 1, rfl, ra, o, hy, o2, p, q⟩)
    · obtain ⟨dy, e'⟩ := id rc
      exact .inl ⟨a, c, dx, dy, _, _, rfl, rfl, e, e', a, .ref c, t, b, t2, b2, rfl, ra, o, hy, o2, p, q⟩
theorem i_num {nu de : Int → Int → Int → Int → Int} (hx : Num C H x t b) (hy : Num C H y t2 b2) (o : Ok4 t b) (o2 : Ok4 t2 b2) (h : (∃ a, x = .ref a) ∨ ∃ a, y = .ref a) (q : pR C nu de t b t2 b2 H Q) : rNumOp C (spBin C nu de) (spRev C nu de) x y H Q := by
  rcases hx with ⟨rfl, rfl⟩ | ⟨a, rfl, ra⟩
  · rcases hy with ⟨rfl, rfl⟩ | ⟨c, rfl, rc⟩
    · rcases h with ⟨_, z⟩ | ⟨_, z⟩ <;> cases z
    · obtain ⟨dx, e⟩ := id rc
      exact .inr (.inr ⟨c, t, dx, _, rfl, rfl, e, c, t, t2, b2, rfl, rc, o2, o.zt, q⟩)
  · obtain ⟨dx, e⟩ := id ra
    rcases id hy with ⟨rfl, rfl⟩ | ⟨c, rfl, rc⟩
    · exact .inr (.inl ⟨a, t2, dx, _, rfl, rfl, e, a, .int t2, t, b, t2, 1, rfl, ra, o, hy, o2, q⟩)
    · obtain ⟨dy, e'⟩ := id rc
      exact .inl ⟨a, c, dx, dy, _, _, rfl, rfl, e, e', a, .ref c, t, b, t2, b2, rfl, ra, o, hy, o2, q⟩
theorem RatAt.num {a : Addr} (r : RatAt C H a t b) : Num C H (.ref a) t b := .inr ⟨a, rfl, r⟩
theorem num_int (i : Int) : Num C H (.int i) i 1 := .inl ⟨rfl, rfl⟩
/-- two Ratios -/
theorem i_own2 {nu de : Int → Int → Int → Int → Int} {a c : Addr} (ra : RatAt C H a t b) (rc : RatAt C H c t2 b2) (o : Ok4 t b) (o2 : Ok4 t2 b2) (q : pR C nu de t b t2 b2 H Q) : rOwn2 C (spBin C nu de) (.ref a) (.ref c) H Q := by
  obtain ⟨dx, e⟩ := id ra
  obtain ⟨dy, e'⟩ := id rc
  exact ⟨a, c, dx, dy, _, _, rfl, rfl, e, e', a, .ref c, t, b, t2, b2, rfl, ra, o, rc.num, o2, q⟩
theorem i_own2G {pre : Q4} {post : P4} {a c : Addr} (ra : RatAt C H a t b) (rc : RatAt C H c t2 b2) (o : Ok4 t b) (o2 : Ok4 t2 b2) (p : pre t b t2 b2) (q : post t b t2 b2 H Q) : rOwn2 C (spBinG C pre post) (.ref a) (.ref c) H Q := by
  obtain ⟨dx, e⟩ := id ra
  obtain ⟨dy, e'⟩ := id rc
  exact ⟨a, c, dx, dy, _, _, rfl, rfl, e, e', a, .ref c, t, b, t2, b2, rfl, ra, o, rc.num, o2, p, q⟩
theorem pR_same {nu de : Int → Int → Int → Int → Int} {H' : Hp} (s : Same H H') (q : pR C nu de t b t2 b2 H Q) : pR C nu de t b t2 b2 H' Q := fun r H2 n s2 hr => q r H2 (s.free n) (s.trans s2) hr
theorem pI_same {f : Int → Int → Int → Int → Int} {H' : Hp} (s : Same H H') (q : pI f t b t2 b2 H Q) : pI f t b t2 b2 H' Q := fun H2 s2 => q H2 (s.trans s2)
end
/-- the floor of the quotient -/
def fQ (t b t2 b2 : Int) : Int := Nu (oN t b t2 b2) (oD t b t2 b2) / De (oN t b t2 b2) (oD t b t2 b2)
def nz4 : Q4 := fun _ _ t2 _ => t2 ≠ 0
/-- the condition of % -/
def pM : Q4 := fun t b t2 b2 => t2 ≠ 0 ∧ Sz 1300 t ∧ Sz 1300 b ∧ Sz 1300 t2 ∧ Sz 1300 b2
/-- the rest: t/b less fQ times t2/b2 -/
def rT (t b t2 b2 : Int) : Int := Nu (mN (fQ t b t2 b2) 1 t2 b2) (dD (fQ t b t2 b2) 1 t2 b2)
def rB (t b t2 b2 : Int) : Int := De (mN (fQ t b t2 b2) 1 t2 b2) (dD (fQ t b t2 b2) 1 t2 b2)
def rN (t b t2 b2 : Int) : Int := sN t b (rT t b t2 b2) (rB t b t2 b2)
def rD (t b t2 b2 : Int) : Int := dD t b (rT t b t2 b2) (rB t b t2 b2)

/-! ### texts of numbers -/
def It (i : Int) : Str := Str.ofString (toString i)
theorem it_len {i : Int} (h : Sz 1900 i) : (It i).length ≤ 2000 := by
  have h2 : i.natAbs.log2 < 1920 := Nat.lt_of_lt_of_le (PySem.Flt.log2_lt_of (by decide) h) (by decide)
  have e := int_text_length_le (k := 1920) (by decide) h2
  unfold It
  rw [PySem.ofString_length]
  omega
theorem it_log {i : Int} (h : Sz 1900 i) : i.natAbs.log2 < 1920 := Nat.lt_of_lt_of_le (PySem.Flt.log2_lt_of (by decide) h) (by decide)
theorem sl_of {n : Nat} (h : n ≤ 100000) : n ≤ sizeLine := Nat.le_trans h (by decide)
theorem app_len (x y : Str) : (x ++ y).length = x.length + y.length := by
  show (x.cps ++ y.cps).size = _
  rw [Array.size_append]
  rfl
theorem emp_app (x : Str) : Str.empty ++ x = x := by
  show (⟨#[] ++ x.cps⟩ : Str) = x
  rw [Array.empty_append]
theorem app_assoc (x y z : Str) : x ++ y ++ z = x ++ (y ++ z) := by
  show (⟨x.cps ++ y.cps ++ z.cps⟩ : Str) = ⟨x.cps ++ (y.cps ++ z.cps)⟩
  rw [Array.append_assoc]
/-- str of a Ratio, repr of one -/
def Rt (t b : Int) : Str := if b = 1 then It t else It t ++ ("/" : Str) ++ It b
def Rp (t b : Int) : Str := ("Ratio(" : Str) ++ It t ++ (", " : Str) ++ It b ++ (")" : Str)
section
variable {H : Hp} {Q : VK} {E : XK} {C : Addr} {σ : L2.St} {ta : TE}
def rFmt : V → Hp → VK → Prop := fun x H1 Q => (∃ y : Str, x = .str y ∧ y.length ≤ sizeLine ∧ Q (.str y) H1) ∨ ∃ i : Int, x = .int i ∧ i.natAbs.log2 < 1920 ∧ Q (.str (toString i)) H1
theorem i_fmt (q : ta σ H fun x H1 => rFmt x H1 Q) : tFmt ta σ H Q := q
theorem i_fmt_i {i : Int} (h : Sz 1900 i) (q : Q (.str (It i)) H) : rFmt (.int i) H Q := .inr ⟨i, rfl, it_log h, q⟩
theorem i_js0 {acc : Str} {Q : Str → Hp → Prop} (q : Q acc H) : tJs [] acc σ H Q := q
theorem i_js {t : TE} {ts : List TE} {acc : Str} {Q : Str → Hp → Prop} (q : t σ H fun x H1 => ∃ y : Str, x = .str y ∧ (acc ++ y).length ≤ sizeLine ∧ tJs ts (acc ++ y) σ H1 Q) : tJs (t :: ts) acc σ H Q := q
def spTxt (C : Addr) (f : Int → Int → Str) : Sp := fun vs H Q _ => ∃ (x : Addr) (t b : Int), vs = [.ref x] ∧ RatAt C H x t b ∧ Sz 1900 t ∧ Sz 1900 b ∧ Q (.str (f t b)) H
def rStr1 : List V → Hp → VK → Prop := fun xs H Q => ∃ i, xs = [.int i] ∧ i.natAbs.log2 < 1920 ∧ Q (.str (toString i)) H
theorem call_strU {X : Cx} : CallR X (.type "str") rStr1 := call_str_int
theorem i_str_i {i : Int} (h : Sz 1900 i) (q : Q (.str (It i)) H) : rStr1 [.int i] H Q := ⟨i, rfl, it_log h, q⟩
def isRef : V → Bool
  | .ref _ => true
  | _ => false
def spREq (C : Addr) : Sp := fun vs H Q _ => ∃ (x : Addr) (v : V) (t b t2 b2 : Int), vs = [.ref x, v] ∧ RatAt C H x t b ∧ Num C H v t2 b2 ∧ Q (.bl (isRef v && (decide (t = t2) && decide (b = b2)))) H
end
end Ly

namespace Ly
open PySem PySem.Spec PyProof.Rows L2
/-! ### the pot of a law, and what stays while it is drawn from -/
structure PotOk (a b : Int) : Prop where
  ha : 0 ≤ a
  hb : 0 ≤ b
  hc : b < 2147483648
def Pot (H : Hp) (p : Addr) : Prop := ∃ a b, H p = some (.lst [.int a, .int b]) ∧ PotOk a b
structure Dr (p : Addr) (H H' : Hp) : Prop where
  keep : ∀ q o, q ≠ p → H q = some o → H' q = some o
  pot : Pot H p
  pot' : Pot H' p
theorem Dr.refl {p : Addr} {H : Hp} (h : Pot H p) : Dr p H H := ⟨fun _ _ _ e => e, h, h⟩
theorem Dr.trans {p : Addr} {H H1 H2 : Hp} (a : Dr p H H1) (b : Dr p H1 H2) : Dr p H H2 := ⟨fun q o n e => b.keep q o n (a.keep q o n e), a.pot, b.pot'⟩
theorem Pot.same {p : Addr} {H H' : Hp} (s : Same H H') (h : Pot H p) : Pot H' p := by
  obtain ⟨a, b, e, o⟩ := h
  exact ⟨a, b, s _ _ e, o⟩
theorem Dr.of {p : Addr} {H H' : Hp} (s : Same H H') (h : Pot H p) : Dr p H H' := ⟨fun q o _ e => s q o e, h, h.same s⟩
theorem Dr.same {p : Addr} {H H1 H2 : Hp} (a : Dr p H H1) (s : Same H1 H2) : Dr p H H2 := a.trans (.of s a.pot')
theorem Dr.free {p : Addr} {H H' : Hp} (k : Dr p H H') {l : Addr} (h : H' l = none) : H l = none := by
  cases q : H l with
  | none => rfl
  | some o =>
    by_cases e : l = p
    · subst e
      obtain ⟨_, _, z, _⟩ := k.pot'
      rw [z] at h
      cases h
    · rw [k.keep l o e q] at h
      cases h
theorem Dr.ne {p : Addr} {H H' : Hp} (k : Dr p H H') {q : Addr} {o : HO} (h : H q = some o) (n : ∀ a b, o ≠ .lst [.int a, .int b]) : q ≠ p := by
  intro z
  subst z
  obtain ⟨a, b, e, _⟩ := k.pot
  rw [e] at h
  exact n a b (Option.some.inj h).symm
theorem Dr.tup {p : Addr} {H H' : Hp} (k : Dr p H H') {q : Addr} {xs : List V} (h : H q = some (.tup xs)) : H' q = some (.tup xs) := k.keep q _ (k.ne h fun _ _ z => by cases z) h
theorem Dr.ins {p : Addr} {H H' : Hp} (k : Dr p H H') {q C dx : Addr} {fs : List (Str × V)} (h : H q = some (.ins C dx fs)) : H' q = some (.ins C dx fs) := k.keep q _ (k.ne h fun _ _ z => by cases z) h
theorem RatAt.pk {p : Addr} {C : Addr} {H H' : Hp} {a : Addr} {t b : Int} (k : Dr p H H') (r : RatAt C H a t b) : RatAt C H' a t b := by
  obtain ⟨dx, e⟩ := r
  exact ⟨dx, k.ins e⟩
theorem Num.pk {p : Addr} {C : Addr} {H H' : Hp} {v : V} {t b : Int} (k : Dr p H H') (r : Num C H v t b) : Num C H' v t b := by
  rcases r with r | ⟨a, e, r⟩
  · exact .inl r
  · exact .inr ⟨a, e, r.pk k⟩
/-- a law's own fraction: a tuple of two ints -/
def FracAt (H : Hp) (a : Addr) (t b : Int) : Prop := H a = some (.tup [.int t, .int b])
theorem FracAt.same {H H' : Hp} {a : Addr} {t b : Int} (s : Same H H') (r : FracAt H a t b) : FracAt H' a t b := s _ _ r
theorem FracAt.pk {p : Addr} {H H' : Hp} {a : Addr} {t b : Int} (k : Dr p H H') (r : FracAt H a t b) : FracAt H' a t b := k.tup r
theorem fresh_ne {p q : Addr} {H : Hp} (h : Pot H p) (n : H q = none) : q ≠ p := by
  intro z
  subst z
  obtain ⟨_, _, e, _⟩ := h
  rw [e] at n
  cases n
/-- a new object, as a heap of its own -/
theorem i_new {H : Hp} {o : HO} {R : V → Hp → Prop} (q : ∀ p H', H p = none → H' p = some o → Same H H' → R (.ref p) H') : ∀ p, H p = none → R (.ref p) (upd H p o) := fun p n =>
  q p _ n upd_same fun b u e => by
    rw [upd_ne (ne_of_none e n)]
    exact e
section
variable {H : Hp} {Q : VK} {E : XK} {K : PySem.W.Frag} {σ : L2.St} {t : TA} {i j : Int}
def rMkT (xs : List V) (H : Hp) (Q : VK) : Prop := xs.length ≤ sizeLine ∧ ∀ p, H p = none → Q (.ref p) (upd H p (.tup xs))
def rMkL (xs : List V) (H : Hp) (Q : VK) : Prop := xs.length ≤ sizeLine ∧ ∀ p, H p = none → Q (.ref p) (upd H p (.lst xs))
theorem i_tup (q : t σ H fun xs H1 => rMkT xs H1 Q) : tTup t σ H Q := q
theorem i_lst (q : t σ H fun xs H1 => rMkL xs H1 Q) : tLst t σ H Q := q
/-- the ends of a display -/
theorem i_mkT {xs : List V} (h : xs.length ≤ 1000) (q : ∀ p H', H p = none → H' p = some (.tup xs) → Same H H' → Q (.ref p) H') : rMkT xs H Q := ⟨Nat.le_of_lt (small1000 h), i_new q⟩
theorem i_mkL {xs : List V} (h : xs.length ≤ 1000) (q : ∀ p H', H p = none → H' p = some (.lst xs) → Same H H' → Q (.ref p) H') : rMkL xs H Q := ⟨Nat.le_of_lt (small1000 h), i_new q⟩
theorem i_mkT2 {v w : V} (q : ∀ p H', H p = none → H' p = some (.tup [v, w]) → Same H H' → Q (.ref p) H') : rMkT [v, w] H Q := i_mkT (by show 2 ≤ 1000; decide) q
theorem i_mkL1 {v : V} (q : ∀ p H', H p = none → H' p = some (.lst [v]) → Same H H' → Q (.ref p) H') : rMkL [v] H Q := i_mkL (by show 1 ≤ 1000; decide) q
theorem i_mkL2 {v w : V} (q : ∀ p H', H p = none → H' p = some (.lst [v, w]) → Same H H' → Q (.ref p) H') : rMkL [v, w] H Q := i_mkL (by show 2 ≤ 1000; decide) q
theorem i_mkL3 {v w x : V} (q : ∀ p H', H p = none → H' p = some (.lst [v, w, x]) → Same H H' → Q (.ref p) H') : rMkL [v, w, x] H Q := i_mkL (by show 3 ≤ 1000; decide) q
theorem i_mkL4 {v w x y : V} (q : ∀ p H', H p = none → H' p = some (.lst [v, w, x, y]) → Same H H' → Q (.ref p) H') : rMkL [v, w, x, y] H Q := i_mkL (by show 4 ≤ 1000; decide) q
theorem i_mkL5 {v w x y z : V} (q : ∀ p H', H p = none → H' p = some (.lst [v, w, x, y, z]) → Same H H' → Q (.ref p) H') : rMkL [v, w, x, y, z] H Q := i_mkL (by show 5 ≤ 1000; decide) q
theorem i_mkL6 {v w x y z u : V} (q : ∀ p H', H p = none → H' p = some (.lst [v, w, x, y, z, u]) → Same H H' → Q (.ref p) H') : rMkL [v, w, x, y, z, u] H Q := i_mkL (by show 6 ≤ 1000; decide) q
def spDraw : Sp := fun vs H Q _ => ∃ (p : Addr) (n : Int), vs = [.ref p, .int n] ∧ Pot H p ∧ 0 < n ∧ Sz 4000 n ∧ ∀ d H', 0 ≤ d → d < n → Dr p H H' → Q (.int d) H'
theorem i_draw {p : Addr} {n : Int} (h : Pot H p) (h0 : 0 < n) (z : Sz 4000 n) (q : ∀ d H', 0 ≤ d → d < n → Dr p H H' → Q (.int d) H') : spDraw [.ref p, .int n] H Q E := ⟨p, n, rfl, h, h0, z, q⟩
def spPick : Sp := fun vs H Q _ => ∃ (p s : Addr) (xs : List V), vs = [.ref p, .ref s] ∧ Pot H p ∧ s ≠ p ∧ H s = some (.lst xs) ∧ xs ≠ [] ∧ xs.length ≤ 1000 ∧ ∀ x H', x ∈ xs → Dr p H H' → Q x H'
theorem i_pick {p s : Addr} {xs : List V} (h : Pot H p) (hs : s ≠ p) (e : H s = some (.lst xs)) (n : xs ≠ []) (l : xs.length ≤ 1000) (q : ∀ x H', x ∈ xs → Dr p H H' → Q x H') : spPick [.ref p, .ref s] H Q E := ⟨p, s, xs, rfl, h, hs, e, n, l, q⟩
/-- a new fraction -/
def pF (t b : Int) (H : Hp) (Q : VK) : Prop := ∀ r H', H r = none → Same H H' → FracAt H' r t b → Q (.ref r) H'
def spFrac : Sp := fun vs H Q _ => ∃ u d : Int, vs = [.int u, .int d] ∧ d ≠ 0 ∧ Sz 8900 u ∧ Sz 8900 d ∧ pF (Nu u d) (De u d) H Q
theorem i_frac {u d : Int} (h : d ≠ 0) (z1 : Sz 8900 u) (z2 : Sz 8900 d) (q : pF (Nu u d) (De u d) H Q) : spFrac [.int u, .int d] H Q E := ⟨u, d, rfl, h, z1, z2, q⟩
theorem pF_same {t b : Int} {H' : Hp} (s : Same H H') (q : pF t b H Q) : pF t b H' Q := fun r H2 n s2 f => q r H2 (s.free n) (s.trans s2) f
/-- of two fractions a new one -/
def spF2 (pre : Int → Int → Int → Int → Prop) (nu de : Int → Int → Int → Int → Int) : Sp := fun vs H Q _ => ∃ (x y : Addr) (t b t2 b2 : Int), vs = [.ref x, .ref y] ∧ FracAt H x t b ∧ FracAt H y t2 b2 ∧ Ok4 t b ∧ Ok4 t2 b2 ∧ pre t b t2 b2 ∧ pF (Nu (nu t b t2 b2) (de t b t2 b2)) (De (nu t b t2 b2) (de t b t2 b2)) H Q
theorem i_f2 {pre : Int → Int → Int → Int → Prop} {nu de : Int → Int → Int → Int → Int} {x y : Addr} {t b t2 b2 : Int} (h1 : FracAt H x t b) (h2 : FracAt H y t2 b2) (o : Ok4 t b) (o2 : Ok4 t2 b2) (p : pre t b t2 b2)
    (q : pF (Nu (nu t b t2 b2) (de t b t2 b2)) (De (nu t b t2 b2) (de t b t2 b2)) H Q) : spF2 pre nu de [.ref x, .ref y] H Q E := ⟨x, y, t, b, t2, b2, rfl, h1, h2, o, o2, p, q⟩
end
section
variable {H : Hp} {Q : VK} {K : PySem.W.Frag} {i j : Int} {p s : Addr} {xs ys : List V}
theorem i_dm (c : CDivP i j) (q : ∀ t H', H t = none → H' t = some (.tup [.int (i / j), .int (i % j)]) → Same H H' → Q (.ref t) H') : rDivmod [.int i, .int j] H Q := i_divmod c (i_new q)
theorem i_catL (h : H p = some (.lst xs)) (h' : H s = some (.lst ys)) (z : xs.length + ys.length ≤ 1000) (q : ∀ t H', H t = none → H' t = some (.lst (xs ++ ys)) → Same H H' → Q (.ref t) H') : rAddU (.ref p) (.ref s) H Q :=
  .inr (.inr ⟨p, s, xs, ys, rfl, rfl, h, h', Nat.le_of_lt (small1000 z), i_new q⟩)
theorem i_repL {n : Int} (h : H p = some (.lst xs)) (h1 : 0 ≤ n) (h2 : n ≤ 1000) (z : xs.length * n.toNat ≤ 1000) (q : ∀ t H', H t = none → H' t = some (.lst (List.replicate n.toNat xs).flatten) → Same H H' → Q (.ref t) H') : rMulU (.ref p) (.int n) H Q :=
  .inr ⟨p, n, xs, rfl, rfl, h, by omega, by omega, Nat.le_of_lt (small1000 z), i_new q⟩
end
section
variable {H : Hp} {Q : VK} {K : PySem.W.Frag} {a : Addr} {t b : Int}
theorem i_ix_f0 (h : FracAt H a t b) (q : Q (.int t) H) : rIx K (.ref a) (.int 0) H Q := i_ix_t (v := .int t) h rfl q
theorem i_ix_f1 (h : FracAt H a t b) (q : Q (.int b) H) : rIx K (.ref a) (.int 1) H Q := i_ix_t (v := .int b) h rfl q
end
theorem cdivp {i j : Int} (h : 0 < j) (h2 : Sz 4000 j) : CDivP i j := by
  refine ⟨h, ?_⟩
  have hl : j.natAbs.log2 < 4000 := PySem.Flt.log2_lt_of (by decide) h2
  show (decide ((if j == 0 then 0 else j.natAbs.log2 / 30 + 1) > 300) && _) = false
  rw [decide_eq_false]
  · rfl
  · split <;> omega
theorem Dr.mut {p q : Addr} {H H' : Hp} {o : HO} (k : Dr p H H') (h : H q = none) (n : q ≠ p) : Dr p H (upd H' q o) := by
  refine ⟨fun c u hc e => ?_, k.pot, ?_⟩
  · rw [upd_ne (ne_of_none e h)]
    exact k.keep c u hc e
  · obtain ⟨a, b, e, ok⟩ := k.pot'
    exact ⟨a, b, by rw [upd_ne (fun z => n z.symm)]; exact e, ok⟩
theorem sz_lit {n : Int} (h : n.natAbs < 2 ^ 64) : Sz 4000 n := sz_mono (n := 64) h (by decide)
section
variable {H : Hp} {Q : VK} {E : XK} {K : PySem.W.Frag} {C : Addr}
def spPot (K : PySem.W.Frag) : Sp := fun vs H Q _ => ∃ (s : Addr) (ns : List Int) (k : Int), vs = [.ref s, .int k] ∧ SqL K H s (ns.map V.int) ∧ 0 ≤ k ∧ k < 100 ∧ ∀ p H', H p = none → Same H H' → Pot H' p → Q (.ref p) H'
def spDrawn : Sp := fun vs H Q _ => ∃ p : Addr, vs = [.ref p] ∧ Pot H p ∧ ∀ r H' t b, H r = none → Dr p H H' → FracAt H' r t b → Lo t b → Sz 96 t → Sz 30 b → Q (.ref r) H'
theorem i_drawn {p : Addr} (h : Pot H p) (q : ∀ r H' t b, H r = none → Dr p H H' → FracAt H' r t b → Lo t b → Sz 96 t → Sz 30 b → Q (.ref r) H') : spDrawn [.ref p] H Q E := ⟨p, rfl, h, q⟩
def spText : Sp := fun vs H Q _ => ∃ (x : Addr) (t b : Int), vs = [.ref x] ∧ FracAt H x t b ∧ Sz 1900 t ∧ Sz 1900 b ∧ Q (.str (Rt t b)) H
theorem i_text {x : Addr} {t b : Int} (h : FracAt H x t b) (z1 : Sz 1900 t) (z2 : Sz 1900 b) (q : Q (.str (Rt t b)) H) : spText [.ref x] H Q E := ⟨x, t, b, rfl, h, z1, z2, q⟩
/-- read: of the text of a fraction in lowest terms -/
def spRead (C : Addr) : Sp := fun vs H Q _ => ∃ t b : Int, vs = [.str (Rt t b)] ∧ Lo t b ∧ Sz 600 t ∧ Sz 600 b ∧ ∀ r H', Same H H' → RatAt C H' r t b → Q (.ref r) H'
def spMade (C : Addr) : Sp := fun vs H Q _ => ∃ (p x : Addr) (t b : Int), vs = [.ref p, .ref x] ∧ Pot H p ∧ FracAt H x t b ∧ Lo t b ∧ Sz 600 t ∧ Sz 600 b ∧ ∀ r H', Dr p H H' → RatAt C H' r t b → Q (.ref r) H'
theorem i_made {p x : Addr} {t b : Int} (h : Pot H p) (f : FracAt H x t b) (l : Lo t b) (z1 : Sz 600 t) (z2 : Sz 600 b) (q : ∀ r H', Dr p H H' → RatAt C H' r t b → Q (.ref r) H') : spMade C [.ref p, .ref x] H Q E := ⟨p, x, t, b, rfl, h, f, l, z1, z2, q⟩
def spSide (C : Addr) : Sp := fun vs H Q _ => ∃ (p x : Addr) (t b : Int), vs = [.ref p, .ref x] ∧ Pot H p ∧ FracAt H x t b ∧ Lo t b ∧ Sz 600 t ∧ Sz 600 b ∧ ∀ v H', Dr p H H' → Num C H' v t b → Q v H'
theorem i_side {p x : Addr} {t b : Int} (h : Pot H p) (f : FracAt H x t b) (l : Lo t b) (z1 : Sz 600 t) (z2 : Sz 600 b) (q : ∀ v H', Dr p H H' → Num C H' v t b → Q v H') : spSide C [.ref p, .ref x] H Q E := ⟨p, x, t, b, rfl, h, f, l, z1, z2, q⟩
end
theorem Lo.scale {t b s : Int} (l : Lo t b) (hs : s ≠ 0) : Nu (t * s) (b * s) = t ∧ De (t * s) (b * s) = b := by
  have hb := l.pos
  have eg : G (t * s) (b * s) = (s.natAbs : Int) := by
    unfold G
    rw [Int.gcd_mul_right, l.one, Nat.one_mul]
  unfold Nu De
  rw [eg]
  by_cases hp : 0 < s
  · have e : (s.natAbs : Int) = s := by omega
    rw [e, if_pos (Int.mul_pos hb hp), if_pos (Int.mul_pos hb hp)]
    exact ⟨Int.mul_ediv_cancel t hs, Int.mul_ediv_cancel b hs⟩
  · have e : (s.natAbs : Int) = -s := by omega
    have n : ¬ 0 < b * s := by
      intro z
      have := Int.mul_neg_of_pos_of_neg hb (show s < 0 by omega)
      omega
    rw [e, if_neg n, if_neg n, ← Int.mul_neg, ← Int.mul_neg]
    exact ⟨Int.mul_ediv_cancel t (by omega), Int.mul_ediv_cancel b (by omega)⟩
end Ly

namespace Ly
open PySem PySem.Spec PyProof.Rows L2
/-! ### comprehensions -/
/-- all but lists stay -/
def NL (H H' : Hp) : Prop := ∀ q o, (∀ xs, o ≠ HO.lst xs) → H q = some o → H' q = some o
theorem NL.same {H H' : Hp} (s : Same H H') : NL H H' := fun q o _ e => s q o e
theorem NL.upd {H : Hp} {q : Addr} {xs ys : List V} (h : H q = some (.lst xs)) : NL H (upd H q (.lst ys)) := fun c o n e => by
  rw [upd_ne (fun z => by rw [z, h] at e; exact n xs (Option.some.inj e).symm)]
  exact e
theorem FracAt.nl {H H' : Hp} {a : Addr} {t b : Int} (s : NL H H') (r : FracAt H a t b) : FracAt H' a t b := s _ _ (fun _ z => by cases z) r
theorem RatAt.nl {C : Addr} {H H' : Hp} {a : Addr} {t b : Int} (s : NL H H') (r : RatAt C H a t b) : RatAt C H' a t b := by
  obtain ⟨dx, e⟩ := r
  exact ⟨dx, s _ _ (fun _ z => by cases z) e⟩
section
variable {K : PySem.W.Frag} {σ : L2.St} {H : Hp} {Q : VK} {te : TE} {l : Addr} {xs : List V} {n j : Nat} {vs : List Nat}
/-- over a list that stands, no test -/
theorem i_lcL (G : Nat → Hp → V → Prop) (hv : σ[n]? = some (some (.ref l))) (hl : H l = some (.lst xs)) (hz : xs.length ≤ 1000) (mono : ∀ i H1 H2 v, NL H1 H2 → G i H1 v → G i H2 v) (hw : ∀ x, wipe ((wipe σ vs).set j (some x)) vs = wipe σ vs)
    (turn : ∀ i x H' (Q' : VK), xs[i]? = some x → Same H H' → (∀ y H4, Same H' H4 → G i H4 y → Q' y H4) → te ((wipe σ vs).set j (some x)) H' Q')
    (fin : ∀ r H' ys, H r = none → Same H H' → H' r = some (.lst ys) → ys.length = xs.length → (∀ i v, ys[i]? = some v → G i H' v) → Q (.ref r) H') : tLc (iList K (tVar n)) (gName j) tYes te vs σ H Q := by
  refine ⟨_, hv, l, rfl, ⟨xs, SqL.of hl⟩, fun D nD => ?_⟩
  have same0 : Same H (upd H D (.lst [])) := fun c o e => by
    rw [upd_ne (ne_of_none e nD)]
    exact e
  refine lc_list (K := K) (a := l) (xs := xs) (fun i H' => ∃ ys, H' D = some (.lst ys) ∧ ys.length = i ∧ i ≤ xs.length ∧ Same H H' ∧ ∀ m v, ys[m]? = some v → G m H' v)
    ⟨[], upd_same, rfl, Nat.zero_le _, same0, fun m v e => by simp at e⟩ (fun i H' _ ⟨_, _, _, _, s, _⟩ => SqL.of (s _ _ hl)) ?_ ?_
  · rintro i x H' hi ⟨ys, hD, hy, hle, s, g⟩
    have hlt : i < xs.length := (List.getElem?_eq_some_iff.mp hi).1
    refine ⟨hw x, ?_⟩
    show te ((wipe σ vs).set j (some x)) H' _
    refine turn i x H' _ hi s fun y H4 s4 gy => ⟨ys, s4 _ _ hD, by rw [hy]; exact small1000 (by omega), ys ++ [y], upd_same, by rw [List.length_append, hy]; rfl, hlt, fun c o e => ?_, fun m v e => ?_⟩
    · rw [upd_ne (ne_of_none e nD)]
      exact s4 _ _ (s _ _ e)
    · have k := NL.upd (ys := ys ++ [y]) (s4 _ _ hD)
      rcases Nat.lt_or_ge m ys.length with h | h
      · rw [List.getElem?_append_left h] at e
        exact mono m _ _ v k (mono m _ _ v (NL.same s4) (g m v e))
      · rw [List.getElem?_append_right h] at e
        have : m - ys.length = 0 := by
          have := (List.getElem?_eq_some_iff.mp e).1
          simp at this
          omega
        rw [this] at e
        have e2 : y = v := Option.some.inj e
        subst e2
        have : m = i := by omega
        subst this
        exact mono _ _ _ y k gy
  · rintro H' ⟨ys, hD, hy, _, s, g⟩
    exact fin D H' ys nD s hD hy g
/-- over range(n), no test -/
theorem i_lcR {ta : TA} {m : Int} (G : Nat → Hp → V → Prop) (h : ∀ Q' : List V → Hp → Prop, Q' [.int m] H → ta σ H Q') (h0 : 0 ≤ m) (h1 : m ≤ 1000) (mono : ∀ i H1 H2 v, NL H1 H2 → G i H1 v → G i H2 v) (hw : ∀ x, wipe ((wipe σ vs).set j (some x)) vs = wipe σ vs)
    (turn : ∀ (i : Nat) H' (Q' : VK), (i : Int) < m → Same H H' → (∀ y H4, Same H' H4 → G i H4 y → Q' y H4) → te ((wipe σ vs).set j (some (.int (i : Int)))) H' Q')
    (fin : ∀ r H' ys, H r = none → Same H H' → H' r = some (.lst ys) → ys.length = m.toNat → (∀ i v, ys[i]? = some v → G i H' v) → Q (.ref r) H') : tLc (iRng1 ta) (gName j) tYes te vs σ H Q := by
  refine h _ ⟨m, rfl, by omega, by omega, fun D nD => ?_⟩
  have same0 : Same H (upd H D (.lst [])) := fun c o e => by
    rw [upd_ne (ne_of_none e nD)]
    exact e
  refine lc_range (lo := 0) (n := m.toNat) (fun i H' => ∃ ys, H' D = some (.lst ys) ∧ ys.length = i ∧ i ≤ m.toNat ∧ Same H H' ∧ ∀ k v, ys[k]? = some v → G k H' v)
    ⟨[], upd_same, rfl, Nat.zero_le _, same0, fun m v e => by simp at e⟩ ?_ ?_
  · rintro i H' hi ⟨ys, hD, hy, hle, s, g⟩
    have e0 : (0 : Int) + (i : Int) = (i : Int) := Int.zero_add _
    rw [e0]
    refine ⟨hw _, ?_⟩
    show te ((wipe σ vs).set j (some (.int (i : Int)))) H' _
    refine turn i H' _ (by omega) s fun y H4 s4 gy => ⟨ys, s4 _ _ hD, by rw [hy]; exact small1000 (by omega), ys ++ [y], upd_same, by rw [List.length_append, hy]; rfl, hi, fun c o e => ?_, fun k v e => ?_⟩
    · rw [upd_ne (ne_of_none e nD)]
      exact s4 _ _ (s _ _ e)
    · have kk := NL.upd (ys := ys ++ [y]) (s4 _ _ hD)
      rcases Nat.lt_or_ge k ys.length with h | h
      · rw [List.getElem?_append_left h] at e
        exact mono k _ _ v kk (mono k _ _ v (NL.same s4) (g k v e))
      · rw [List.getElem?_append_right h] at e
        have : k - ys.length = 0 := by
          have := (List.getElem?_eq_some_iff.mp e).1
          simp at this
          omega
        rw [this] at e
        have e2 : y = v := Option.some.inj e
        subst e2
        have : k = i := by omega
        subst this
        exact mono _ _ _ y kk gy
  · rintro H' ⟨ys, hD, hy, _, s, g⟩
    exact fin D H' ys nD s hD hy g
end
/-! ### keywords -/
section
variable {σ : L2.St} {H : Hp} {Q : VK} {E : XK} {C : Addr} {sp : Sp} {tk : TA} {ta : TE} {m : Str} {t b : Int} {a : Addr} {v : V}
def rSK (sp : Sp) (n : Nat) : List V → Hp → VK → Prop := fun zs H2 Q => zs.length = n ∧ sp ([] ++ zs) H2 Q E0
theorem i_smethK {n : Nat} (q : tk σ H fun zs H2 => rSK sp n zs H2 Q) : tSMethK0 C n sp (· ++ ·) (tC (.ref C)) tk σ H Q := ⟨rfl, q⟩
theorem i_sk1 (q : sp [v] H Q E0) : rSK sp 1 [v] H Q := ⟨rfl, q⟩
def rMK (C : Addr) (m : Str) (n : Nat) (sp : Sp) (tk : TA) (σ : L2.St) : V → Hp → VK → Prop := fun x H1 Q => ∃ a dx fs, x = .ref a ∧ H1 a = some (.ins C dx fs) ∧ fs.lookup m = none ∧ tk σ H1 fun zs H2 => zs.length = n ∧ sp ([x] ++ zs) H2 Q E0
theorem i_methK {n : Nat} (q : ta σ H fun x H1 => rMK C m n sp tk σ x H1 Q) : tMethK0 C m n sp (· ++ ·) ta tk σ H Q := q
def rMK1 (n : Nat) (sp : Sp) (x : V) : List V → Hp → VK → Prop := fun zs H2 Q => zs.length = n ∧ sp ([x] ++ zs) H2 Q E0
theorem i_rmk {n : Nat} (r : RatAt C H a t b) (h1 : ¬ m = "_top") (h2 : ¬ m = "_bottom") (q : tk σ H fun zs H2 => rMK1 n sp (.ref a) zs H2 Q) : rMK C m n sp tk σ (.ref a) H Q := by
  obtain ⟨dx, e⟩ := r
  exact ⟨a, dx, _, rfl, e, flds_no t b h1 h2, q⟩
theorem i_mk11 (q : sp [.ref a, v] H Q E0) : rMK1 1 sp (.ref a) [v] H Q := ⟨rfl, q⟩
/-- C(bottom=.., top=..) -/
def gBT {α : Type} (us ws : List α) : List α := us ++ ws.reverse
def rMakeK (C : Addr) (sp : Sp) : List V → Hp → VK → Prop := fun zs H2 Q => zs.length = 2 ∧ ∀ x dx, H2 x = none → H2 dx = none → dx ≠ x → sp (gBT [.ref x] zs) (upd (upd H2 dx (.own x)) x (.ins C dx [])) (fun v H3 => v = .non ∧ Q (.ref x) H3) E0
theorem i_makeK (q : tk σ H fun zs H2 => rMakeK C sp zs H2 Q) : tMakeK C 0 2 sp gBT E0 tNil tk σ H Q := by
  have e : (fun (zs : List V) (H2 : Hp) => rMakeK C sp zs H2 Q) = fun zs H2 => ([] : List V).length = 0 ∧ zs.length = 2 ∧ ∀ x dx, H2 x = none → H2 dx = none → dx ≠ x → sp (gBT (.ref x :: []) zs) (upd (upd H2 dx (.own x)) x (.ins C dx [])) (fun v H3 => v = .non ∧ Q (.ref x) H3) E0 := by
    funext zs H2
    simp [rMakeK]
  rw [e] at q
  exact q
theorem i_mkBT (hb : b ≠ 0) (z1 : t.natAbs < 2 ^ 8900) (z2 : b.natAbs < 2 ^ 8900) (q : ∀ x H', H x = none → Same H H' → RatAt C H' x (Nu t b) (De t b) → Q (.ref x) H') : rMakeK C (spInit C) [.int b, .int t] H Q := by
  refine ⟨rfl, ?_⟩
  have z := i_mk2 hb z1 z2 q
  intro x dx n1 n2 ne
  exact z x dx n1 n2 ne
end
structure MakK (W : Wd) (k : Nat) (x : Str) (C : Addr) (ks : List Str) (sp : Sp) : Prop where
  ex : ∃ (f : Addr) (fd : FuncData) (ps : List Str), Mk W.K C f ∧ FnOk W.P W.w W.K W.mg W.base CX0 k f fd ps sp ∧ W.mg x = some (.ref C) ∧ KBn W.K fd ps 1 ks gBT gBT
theorem pe_makK {X : Cx} {k j : Nat} {x : Str} {C : Addr} {ks : List Str} {sp : Sp} {p pos : Pos} {kws : List Keyword} {tk : TA} (h : MakK ⟨X.prog, X.w, X.K, X.mg, X.base⟩ k x C ks sp) (hr : Room j X.A) (hk : k + 1 ≤ j) (hg : Gl X x) (hkw : PK X kws tk)
    (hall : (backToKw pos (keywordEach kws X.env)).all (·.1.isSome) = true := by rfl) (hks : (backToKw pos (keywordEach kws X.env)).filterMap (·.1) = ks := by rfl) (hdb : (x == ("__debug__" : Str)) = false := by decide)
    (hpl : ((backTo pos (starEach [] X.env)).any (·.1) || (backToKw pos (keywordEach kws X.env)).any (·.1.isNone)) = false := by rfl) :
    PE X (.Call (.Name x p) [] kws pos) (tMakeK C 0 ks.length sp gBT E0 tNil tk) := by
  obtain ⟨f, fd, ps, M, F, hm, b⟩ := h.ex
  exact pe_makeK0 M F (hr.mono hk) hg hm b pass0 hkw hall hks hdb hpl
/-! ### lists of fractions, of Ratios -/
def FrL (H : Hp) (r : Addr) (ps : List (Int × Int)) : Prop := ∃ ys : List V, H r = some (.lst ys) ∧ ys.length = ps.length ∧ ∀ (i : Nat) (v : V) (p : Int × Int), ys[i]? = some v → ps[i]? = some p → ∃ y : Addr, v = V.ref y ∧ FracAt H y p.1 p.2
def spTold (C : Addr) : Sp := fun vs H Q _ => ∃ (l : Addr) (xs : List V) (ps : List (Int × Int)), vs = [.ref l] ∧ H l = some (.lst xs) ∧ xs.length = ps.length ∧ xs.length ≤ 1000 ∧ (∀ (i : Nat) (v : V) (p : Int × Int), xs[i]? = some v → ps[i]? = some p → ∃ y : Addr, v = V.ref y ∧ RatAt C H y p.1 p.2) ∧
  ∀ r H', H r = none → Same H H' → FrL H' r ps → Q (.ref r) H'
def spInts : Sp := fun vs H Q _ => ∃ (l : Addr) (ns : List Int), vs = [.ref l] ∧ H l = some (.lst (ns.map V.int)) ∧ ns.length ≤ 1000 ∧ ∀ H', Same H H' → Q (.bl true) H'
end Ly

namespace Ly
open PySem PySem.Spec PyProof.Rows L2
/-! ### equal data -/
def FrAll (H : Hp) : List V → List (Int × Int) → Prop
  | [], [] => True
  | v :: vs, p :: ps => (∃ y : Addr, v = V.ref y ∧ FracAt H y p.1 p.2) ∧ FrAll H vs ps
  | _, _ => False
def RaAll (C : Addr) (H : Hp) : List V → List (Int × Int) → Prop
  | [], [] => True
  | v :: vs, p :: ps => (∃ y : Addr, v = V.ref y ∧ RatAt C H y p.1 p.2) ∧ RaAll C H vs ps
  | _, _ => False
theorem FrAll.ix {H : Hp} : ∀ {ys : List V} {ps : List (Int × Int)}, FrAll H ys ps → ys.length = ps.length ∧ ∀ (i : Nat) (v : V) (p : Int × Int), ys[i]? = some v → ps[i]? = some p → ∃ y : Addr, v = V.ref y ∧ FracAt H y p.1 p.2
  | [], [], _ => ⟨rfl, fun i v p h => by simp at h⟩
  | v :: vs, p :: ps, h => by
    obtain ⟨l, g⟩ := FrAll.ix h.2
    refine ⟨by simp [l], fun i w q hw hq => ?_⟩
    cases i with
    | zero =>
      have e1 : v = w := Option.some.inj hw
      have e2 : p = q := Option.some.inj hq
      subst e1 e2
      exact h.1
    | succ i => exact g i w q hw hq
  | [], _ :: _, h => by cases h
  | _ :: _, [], h => by cases h
theorem RaAll.ix {C : Addr} {H : Hp} : ∀ {ys : List V} {ps : List (Int × Int)}, RaAll C H ys ps → ys.length = ps.length ∧ ∀ (i : Nat) (v : V) (p : Int × Int), ys[i]? = some v → ps[i]? = some p → ∃ y : Addr, v = V.ref y ∧ RatAt C H y p.1 p.2
  | [], [], _ => ⟨rfl, fun i v p h => by simp at h⟩
  | v :: vs, p :: ps, h => by
    obtain ⟨l, g⟩ := RaAll.ix h.2
    refine ⟨by simp [l], fun i w q hw hq => ?_⟩
    cases i with
    | zero =>
      have e1 : v = w := Option.some.inj hw
      have e2 : p = q := Option.some.inj hq
      subst e1 e2
      exact h.1
    | succ i => exact g i w q hw hq
  | [], _ :: _, h => by cases h
  | _ :: _, [], h => by cases h
theorem FrAll.of {H : Hp} : ∀ {ys : List V} {ps : List (Int × Int)}, ys.length = ps.length → (∀ (i : Nat) (v : V) (p : Int × Int), ys[i]? = some v → ps[i]? = some p → ∃ y : Addr, v = V.ref y ∧ FracAt H y p.1 p.2) → FrAll H ys ps
  | [], [], _, _ => trivial
  | v :: vs, p :: ps, l, h => ⟨h 0 v p rfl rfl, FrAll.of (by simpa using l) fun i w q hw hq => h (i + 1) w q hw hq⟩
  | [], _ :: _, l, _ => by cases l
  | _ :: _, [], l, _ => by cases l
theorem frl_of {H : Hp} {r : Addr} {ys : List V} {ps : List (Int × Int)} (h : H r = some (.lst ys)) (g : FrAll H ys ps) : FrL H r ps := ⟨ys, h, g.ix.1, g.ix.2⟩
theorem FrL.same {H H' : Hp} {r : Addr} {ps : List (Int × Int)} (s : Same H H') (h : FrL H r ps) : FrL H' r ps := by
  obtain ⟨ys, e, l, g⟩ := h
  refine ⟨ys, s _ _ e, l, fun i v p h1 h2 => ?_⟩
  obtain ⟨y, e2, f⟩ := g i v p h1 h2
  exact ⟨y, e2, f.same s⟩
def dF (p : Int × Int) : PyData := .tuple [.int p.1, .int p.2]
def dL (ps : List (Int × Int)) : PyData := .list (ps.map dF)
theorem FracAt.dp {K : PySem.W.Frag} {H : Hp} {r : Addr} {t b : Int} (h : FracAt H r t b) : Dp K H (.ref r) (dF (t, b)) := .tup (SqT.of h) (.cons (.int t) (.cons (.int b) .nil))
theorem FrAll.dp {K : PySem.W.Frag} {H : Hp} : ∀ {ys : List V} {ps : List (Int × Int)}, FrAll H ys ps → DpAll K H ys (ps.map dF)
  | [], [], _ => .nil
  | v :: vs, p :: ps, h => by
    obtain ⟨⟨y, rfl, f⟩, g⟩ := h
    exact .cons f.dp g.dp
  | [], _ :: _, h => by cases h
  | _ :: _, [], h => by cases h
theorem FrL.dp {K : PySem.W.Frag} {H : Hp} {r : Addr} {ps : List (Int × Int)} (h : FrL H r ps) : Dp K H (.ref r) (dL ps) := by
  obtain ⟨ys, e, l, g⟩ := h
  exact .lst (SqL.of e) (FrAll.of l g).dp
theorem dF_lay (p : Int × Int) : (dF p).canLay0 = true := by
  simp [dF, PyData.canLay0, PyData.canLayAll0]
theorem dL_lay (ps : List (Int × Int)) : (dL ps).canLay0 = true := by
  have e : PyData.canLayAll0 (ps.map dF) = true := by
    induction ps with
    | nil => rfl
    | cons p ps ih => simp [PyData.canLayAll0, dF_lay, ih]
  simp [dL, PyData.canLay0, e]
theorem dF_dep (p : Int × Int) : (dF p).depth = 1 := by
  simp [dF, PyData.depth, PyData.depthAll]
theorem dL_dep (ps : List (Int × Int)) : (dL ps).depth ≤ 2 := by
  have e : PyData.depthAll (ps.map dF) ≤ 1 := by
    induction ps with
    | nil => simp [PyData.depthAll]
    | cons p ps ih => 
      simp [PyData.depthAll, dF_dep]
      omega
  simp [dL, PyData.depth]
  omega
theorem dL_shaped (ps : List (Int × Int)) : SeqAt.shaped (dL ps) = true := by
  have := dL_dep ps
  unfold SeqAt.shaped
  rw [dL_lay, decide_eq_true (by omega)]
  rfl
theorem dF_shaped (p : Int × Int) : SeqAt.shaped (dF p) = true := by
  unfold SeqAt.shaped
  rw [dF_lay, dF_dep]
  rfl
theorem lay_refl {d : PyData} (h : SeqAt.shaped d = true) : d.eqv d = true := SeqAt.eqv_refl d (by
  unfold SeqAt.shaped at h
  exact (Bool.and_eq_true_iff.mp h).1)
/-- lists of ints, of texts -/
def dI (ns : List Int) : PyData := .list (ns.map PyData.int)
theorem dI_shaped (ns : List Int) : SeqAt.shaped (dI ns) = true := by
  have e : PyData.canLayAll0 (ns.map PyData.int) = true := by
    induction ns with
    | nil => rfl
    | cons p ps ih => simp [PyData.canLayAll0, PyData.canLay0, ih]
  have d : PyData.depthAll (ns.map PyData.int) = 0 := by
    clear e
    induction ns with
    | nil => rfl
    | cons p ps ih => simp [PyData.depthAll, PyData.depth, ih]
  unfold SeqAt.shaped
  simp [dI, PyData.canLay0, PyData.depth, e, d]
theorem dI_dp {K : PySem.W.Frag} {H : Hp} {r : Addr} {ns : List Int} (h : H r = some (.lst (ns.map V.int))) : Dp K H (.ref r) (dI ns) := by
  refine .lst (SqL.of h) ?_
  clear h
  induction ns with
  | nil => exact .nil
  | cons n ns ih => exact .cons (.int n) ih
section
variable {K : PySem.W.Frag} {H : Hp} {Q : VK} {x y : V} {d : PyData} {r r' : Addr} {ps : List (Int × Int)} {ns : List Int}
theorem i_eqD (h1 : Dp K H x d) (h2 : Dp K H y d) (s : SeqAt.shaped d = true) (q : Q (.bl true) H) : rEqU K x y H Q := .inr ⟨d, d, h1, h2, s, s, by rw [lay_refl s]; exact q⟩
theorem i_neD (h1 : Dp K H x d) (h2 : Dp K H y d) (s : SeqAt.shaped d = true) (q : Q (.bl false) H) : rNeU K x y H Q := .inr ⟨d, d, h1, h2, s, s, by rw [lay_refl s]; exact q⟩
theorem i_eqFr (h1 : FrL H r ps) (h2 : FrL H r' ps) (q : Q (.bl true) H) : rEqU K (.ref r) (.ref r') H Q := i_eqD h1.dp h2.dp (dL_shaped ps) q
theorem i_neFr (h1 : FrL H r ps) (h2 : FrL H r' ps) (q : Q (.bl false) H) : rNeU K (.ref r) (.ref r') H Q := i_neD h1.dp h2.dp (dL_shaped ps) q
theorem i_eqIn (h1 : H r = some (.lst (ns.map V.int))) (h2 : H r' = some (.lst (ns.map V.int))) (q : Q (.bl true) H) : rEqU K (.ref r) (.ref r') H Q := i_eqD (dI_dp h1) (dI_dp h2) (dI_shaped ns) q
theorem i_neIn (h1 : H r = some (.lst (ns.map V.int))) (h2 : H r' = some (.lst (ns.map V.int))) (q : Q (.bl false) H) : rNeU K (.ref r) (.ref r') H Q := i_neD (dI_dp h1) (dI_dp h2) (dI_shaped ns) q
/-- two fractions of the law -/
theorem i_eqF {t b t2 b2 : Int} (h1 : FracAt H r t b) (h2 : FracAt H r' t2 b2) (q : Q (.bl (decide (t = t2) && decide (b = b2))) H) : rEqU K (.ref r) (.ref r') H Q := by
  refine .inr ⟨_, _, h1.dp, h2.dp, dF_shaped _, dF_shaped _, ?_⟩
  have e : (dF (t, b)).eqv (dF (t2, b2)) = (decide (t = t2) && decide (b = b2)) := by
    have k : ∀ i j : Int, (i == j) = decide (i = j) := fun i j => by
      by_cases h : i = j <;> simp [h]
    simp [dF, PyData.eqv, PyData.eqvAll, k]
  rw [e]
  exact q
/-- two lists of two bools, of four -/
def dB (bs : List Bool) : PyData := .list (bs.map PyData.bool)
theorem dB_shaped (ns : List Bool) : SeqAt.shaped (dB ns) = true := by
  have e : PyData.canLayAll0 (ns.map PyData.bool) = true := by
    induction ns with
    | nil => rfl
    | cons p ps ih => simp [PyData.canLayAll0, PyData.canLay0, ih]
  have d : PyData.depthAll (ns.map PyData.bool) = 0 := by
    clear e
    induction ns with
    | nil => rfl
    | cons p ps ih => simp [PyData.depthAll, PyData.depth, ih]
  unfold SeqAt.shaped
  simp [dB, PyData.canLay0, PyData.depth, e, d]
theorem i_eqBl {bs : List Bool} (h1 : H r = some (.lst (bs.map V.bl))) (h2 : H r' = some (.lst (bs.map V.bl))) (q : Q (.bl true) H) : rEqU K (.ref r) (.ref r') H Q := by
  have g : ∀ {r : Addr}, H r = some (.lst (bs.map V.bl)) → Dp K H (.ref r) (dB bs) := fun h => by
    refine .lst (SqL.of h) ?_
    clear h h1 h2 q
    induction bs with
    | nil => exact .nil
    | cons n ns ih => exact .cons (.bl n) ih
  exact i_eqD (g h1) (g h2) (dB_shaped bs) q
end
/-- texts below the limit may be compared -/
theorem i_neTx {K : PySem.W.Frag} {H : Hp} {Q : VK} {r r' : Addr} {x y : Str} (z1 : PyData.strOk x = true) (z2 : PyData.strOk y = true) (h1 : H r = some (.lst [.str x, .str y])) (h2 : H r' = some (.lst [.str x, .str y])) (q : Q (.bl false) H) : rNeU K (.ref r) (.ref r') H Q := by
  have g : ∀ {r : Addr}, H r = some (.lst [.str x, .str y]) → Dp K H (.ref r) (.list [.str x, .str y]) := fun h => .lst (SqL.of h) (.cons (.str x) (.cons (.str y) .nil))
  refine i_neD (g h1) (g h2) ?_ q
  unfold SeqAt.shaped
  simp [PyData.canLay0, PyData.canLayAll0, PyData.depth, PyData.depthAll, z1, z2]
theorem ok_app {x y : Str} (h : PyData.strOk x = true) (k : PyData.strOk y = true) : PyData.strOk (x ++ y) = true := by
  show (x.cps ++ y.cps).all _ = true
  rw [Array.all_append]
  exact Bool.and_eq_true_iff.mpr ⟨h, k⟩
theorem ok_It (i : Int) : PyData.strOk (It i) = true := by
  have h : ∀ c ∈ (It i).cps.toList, c < 1114112 := fun c hc => by
    rcases Nat.lt_or_ge c 1114112 with k | k
    · exact k
    · exact absurd hc (PyProof.Rows.int_text_free' c (by omega) i)
  unfold PyData.strOk
  rw [Array.all_eq_true']
  intro c hc
  exact decide_eq_true (h c (Array.mem_toList_iff.mpr hc))
theorem ok_Rt (t b : Int) : PyData.strOk (Rt t b) = true := by
  unfold Rt
  split
  · exact ok_It t
  · exact ok_app (ok_app (ok_It t) (by decide +kernel)) (ok_It b)
theorem ok_Rp (t b : Int) : PyData.strOk (Rp t b) = true := ok_app (ok_app (ok_app (ok_app (by decide +kernel) (ok_It t)) (by decide +kernel)) (ok_It b)) (by decide +kernel)
theorem i_told {C : Addr} {H : Hp} {Q : VK} {E : XK} {l : Addr} {xs : List V} {ps : List (Int × Int)} (h : H l = some (.lst xs)) (g : RaAll C H xs ps) (z : xs.length ≤ 1000) (q : ∀ r H', H r = none → Same H H' → FrL H' r ps → Q (.ref r) H') : spTold C [.ref l] H Q E := ⟨l, xs, ps, rfl, h, g.ix.1, z, g.ix.2, q⟩
theorem i_ints {H : Hp} {Q : VK} {E : XK} {l : Addr} {ns : List Int} (h : H l = some (.lst (ns.map V.int))) (z : ns.length ≤ 1000) (q : ∀ H', Same H H' → Q (.bl true) H') : spInts [.ref l] H Q E := ⟨l, ns, rfl, h, z, q⟩
section
variable {C : Addr} {H : Hp} {Q : VK} {E : XK} {l : Addr}
theorem i_told1 {r1 : Addr} {t1 b1 : Int} (h : H l = some (.lst [.ref r1])) (g1 : RatAt C H r1 t1 b1) (q : ∀ r H', H r = none → Same H H' → FrL H' r [(t1, b1)] → Q (.ref r) H') : spTold C [.ref l] H Q E := i_told (ps := [(t1, b1)]) h ⟨⟨r1, rfl, g1⟩, trivial⟩ (by show 1 ≤ 1000; decide) q
theorem frl1 {r1 : Addr} {t1 b1 : Int} (h : H l = some (.lst [.ref r1])) (g1 : FracAt H r1 t1 b1) : FrL H l [(t1, b1)] := frl_of (ps := [(t1, b1)]) h ⟨⟨r1, rfl, g1⟩, trivial⟩
theorem i_told2 {r1 r2 : Addr} {t1 b1 t2 b2 : Int} (h : H l = some (.lst [.ref r1, .ref r2])) (g1 : RatAt C H r1 t1 b1) (g2 : RatAt C H r2 t2 b2) (q : ∀ r H', H r = none → Same H H' → FrL H' r [(t1, b1), (t2, b2)] → Q (.ref r) H') : spTold C [.ref l] H Q E := i_told (ps := [(t1, b1), (t2, b2)]) h ⟨⟨r1, rfl, g1⟩, ⟨r2, rfl, g2⟩, trivial⟩ (by show 2 ≤ 1000; decide) q
theorem frl2 {r1 r2 : Addr} {t1 b1 t2 b2 : Int} (h : H l = some (.lst [.ref r1, .ref r2])) (g1 : FracAt H r1 t1 b1) (g2 : FracAt H r2 t2 b2) : FrL H l [(t1, b1), (t2, b2)] := frl_of (ps := [(t1, b1), (t2, b2)]) h ⟨⟨r1, rfl, g1⟩, ⟨r2, rfl, g2⟩, trivial⟩
theorem i_told3 {r1 r2 r3 : Addr} {t1 b1 t2 b2 t3 b3 : Int} (h : H l = some (.lst [.ref r1, .ref r2, .ref r3])) (g1 : RatAt C H r1 t1 b1) (g2 : RatAt C H r2 t2 b2) (g3 : RatAt C H r3 t3 b3) (q : ∀ r H', H r = none → Same H H' → FrL H' r [(t1, b1), (t2, b2), (t3, b3)] → Q (.ref r) H') : spTold C [.ref l] H Q E := i_told (ps := [(t1, b1), (t2, b2), (t3, b3)]) h ⟨⟨r1, rfl, g1⟩, ⟨r2, rfl, g2⟩, ⟨r3, rfl, g3⟩, trivial⟩ (by show 3 ≤ 1000; decide) q
theorem frl3 {r1 r2 r3 : Addr} {t1 b1 t2 b2 t3 b3 : Int} (h : H l = some (.lst [.ref r1, .ref r2, .ref r3])) (g1 : FracAt H r1 t1 b1) (g2 : FracAt H r2 t2 b2) (g3 : FracAt H r3 t3 b3) : FrL H l [(t1, b1), (t2, b2), (t3, b3)] := frl_of (ps := [(t1, b1), (t2, b2), (t3, b3)]) h ⟨⟨r1, rfl, g1⟩, ⟨r2, rfl, g2⟩, ⟨r3, rfl, g3⟩, trivial⟩
theorem i_told6 {r1 r2 r3 r4 r5 r6 : Addr} {t1 b1 t2 b2 t3 b3 t4 b4 t5 b5 t6 b6 : Int} (h : H l = some (.lst [.ref r1, .ref r2, .ref r3, .ref r4, .ref r5, .ref r6])) (g1 : RatAt C H r1 t1 b1) (g2 : RatAt C H r2 t2 b2) (g3 : RatAt C H r3 t3 b3) (g4 : RatAt C H r4 t4 b4) (g5 : RatAt C H r5 t5 b5) (g6 : RatAt C H r6 t6 b6) (q : ∀ r H', H r = none → Same H H' → FrL H' r [(t1, b1), (t2, b2), (t3, b3), (t4, b4), (t5, b5), (t6, b6)] → Q (.ref r) H') : spTold C [.ref l] H Q E := i_told (ps := [(t1, b1), (t2, b2), (t3, b3), (t4, b4), (t5, b5), (t6, b6)]) h ⟨⟨r1, rfl, g1⟩, ⟨r2, rfl, g2⟩, ⟨r3, rfl, g3⟩, ⟨r4, rfl, g4⟩, ⟨r5, rfl, g5⟩, ⟨r6, rfl, g6⟩, trivial⟩ (by show 6 ≤ 1000; decide) q
theorem frl6 {r1 r2 r3 r4 r5 r6 : Addr} {t1 b1 t2 b2 t3 b3 t4 b4 t5 b5 t6 b6 : Int} (h : H l = some (.lst [.ref r1, .ref r2, .ref r3, .ref r4, .ref r5, .ref r6])) (g1 : FracAt H r1 t1 b1) (g2 : FracAt H r2 t2 b2) (g3 : FracAt H r3 t3 b3) (g4 : FracAt H r4 t4 b4) (g5 : FracAt H r5 t5 b5) (g6 : FracAt H r6 t6 b6) : FrL H l [(t1, b1), (t2, b2), (t3, b3), (t4, b4), (t5, b5), (t6, b6)] := frl_of (ps := [(t1, b1), (t2, b2), (t3, b3), (t4, b4), (t5, b5), (t6, b6)]) h ⟨⟨r1, rfl, g1⟩, ⟨r2, rfl, g2⟩, ⟨r3, rfl, g3⟩, ⟨r4, rfl, g4⟩, ⟨r5, rfl, g5⟩, ⟨r6, rfl, g6⟩, trivial⟩
end
end Ly

namespace Ly
open PySem PySem.Spec PyProof.Rows L2
/-- an item of a list, by a count -/
def rGetL (K : PySem.W.Frag) : V → V → Hp → VK → Prop := fun x y H Q => ∃ (p : Addr) (xs : List V) (m : Nat) (v : V), x = .ref p ∧ y = .int m ∧ SqL K H p xs ∧ xs[m]? = some v ∧ Q v H
theorem pget_list {X : Cx} : PGet X (rGetL X.K) := fun pins s σ H o i ov iv Q I ro ri ⟨p, xs, n, z, ho, hi, hq, he, q⟩ => by
  subst ho
  subst hi
  obtain rfl : ov = .ref p := ro
  obtain ⟨t, rfl⟩ := ri
  obtain ⟨its, r, pl, hz⟩ := I.list hq
  obtain ⟨w, ew, rw'⟩ := r.get he
  have hl : n < xs.length := (List.getElem?_eq_some_iff.mp he).1
  have hs : sizeLine < 2 ^ 62 := by decide
  refine PyProof.Rows.getItem_listL pl.isList (by omega) (by omega) (x := w) ?_ ?_
  · rw [Int.toNat_natCast]
    exact ew
  · exact ⟨_, _, I, rw', q⟩
section
variable {X : Cx} {k j : Nat} {C : Addr} {x : Str} {sp : Sp} {op : Operator}
theorem neg_m (h : Mt ⟨X.prog, X.w, X.K, X.mg, X.base⟩ k C "__neg__" sp) (hr : Room j X.A) (hk : k ≤ j) : UnR X (unaryOp UnaryOp.USub) (uOwn C sp) := by
  obtain ⟨f, fd, ps, hm, F, b⟩ := h.ex
  exact un_own F (hr.mono hk) b hm.at_ hm.fn
theorem abs_m (h : Mt ⟨X.prog, X.w, X.K, X.mg, X.base⟩ k C "__abs__" sp) (hr : Room j X.A) (hk : k + 1 ≤ j) : CallR X (.builtin "abs") (rCOwn C sp) := by
  obtain ⟨f, fd, ps, hm, F, b⟩ := h.ex
  exact call_abs_own F (hr.mono hk) b hm.at_ hm.fn
theorem str_m (h : Mt ⟨X.prog, X.w, X.K, X.mg, X.base⟩ k C "__str__" sp) (hr : Room j X.A) (hk : k + 3 ≤ j) : CallR X (.type "str") (rSOwn C sp) := by
  obtain ⟨f, fd, ps, hm, F, b⟩ := h.ex
  exact call_str_own F (hr.mono hk) b hm.at_ hm.fn
theorem repr_m (h : Mt ⟨X.prog, X.w, X.K, X.mg, X.base⟩ k C "__repr__" sp) (hr : Room j X.A) (hk : k + 2 ≤ j) : CallR X (.builtin "repr") (rSOwn C sp) := by
  obtain ⟨f, fd, ps, hm, F, b⟩ := h.ex
  exact call_repr_own F (hr.mono hk) b hm.at_ hm.fn
def rEqNum (C : Addr) (sp : Sp) : R2 := rOr (rEqOwn C sp) (rIEqOwn C sp id)
def rNeNum (C : Addr) (sp : Sp) : R2 := rOr (rNeOwn C sp) (rIEqOwn C sp not)
theorem op_eqN (h : Mt ⟨X.prog, X.w, X.K, X.mg, X.base⟩ k C "__eq__" sp) (o : OwnC X.K X.mg x C) (hr : Room j X.A) (hk : k ≤ j) : OpR X (compareOp .Eq) (rEqNum C sp) := by
  obtain ⟨f, fd, ps, hm, F, b⟩ := h.ex
  exact opr_or (op_eq_own F (hr.mono hk) b hm.at_ hm.fn o.nI) (op_eq_Iown F (hr.mono hk) b hm.at_ hm.fn o.sI')
theorem op_neN (h : Mt ⟨X.prog, X.w, X.K, X.mg, X.base⟩ k C "__eq__" sp) (o : OwnC X.K X.mg x C) (ne : PySem.W.findIn X.K (.ref C) "__ne__" = some (some (.builtin "object.__ne__"))) (hr : Room j X.A) (hk : k + 3 ≤ j) : OpR X (compareOp .NotEq) (rNeNum C sp) := by
  obtain ⟨f, fd, ps, hm, F, b⟩ := h.ex
  exact opr_or (op_ne_own F (hr.mono hk) b hm.at_ hm.fn ne o.sO o.sI) (op_ne_Iown F (hr.mono hk) b hm.at_ hm.fn ne o.sO o.sI')
/-- in place, on the left an own one, on the right an own one or an int -/
def rInp (C : Addr) (sp : Sp) : TIp := fun x y H Q => ∃ a dx fs, x = .ref a ∧ H a = some (.ins C dx fs) ∧ ((∃ b dy gs, y = .ref b ∧ H b = some (.ins C dy gs)) ∨ ∃ i, y = .int i) ∧ sp [x, y] H Q E0
theorem ip_num {m m' : Str} {k' : Nat} {spR : Sp} (h : Mt ⟨X.prog, X.w, X.K, X.mg, X.base⟩ k C m sp) (h' : Mt ⟨X.prog, X.w, X.K, X.mg, X.base⟩ k' C m' spR) (o : OwnC X.K X.mg x C) (hr : Room j X.A) (hk : k ≤ j) (e : PySem.dunder op.info.2 = m) (e' : dunderR op.info.2 = m')
    (hi : PySem.W.findIn X.K (.ref C) (dunderI op.info.2) = some none) (ho : PySem.W.findIn X.K (.type "object") (dunderI op.info.2) = some none)
    {fo ro : Option Value} (h1 : PySem.W.findIn X.K (.type "int") (PySem.dunder op.info.2) = some fo) (h2 : PySem.W.findIn X.K (.type "int") (dunderR op.info.2) = some ro) (h12 : ((fo.isSome && !isSeqSlot fo) || (ro.isSome && !isSeqSlot ro)) = true) : PIp X op (rInp C sp) := by
  subst e
  subst e'
  obtain ⟨f, fd, ps, hm, F, b⟩ := _root_.id h.ex
  obtain ⟨f', fd', ps', hm', F', b'⟩ := _root_.id h'.ex
  intro pins s σ H u w v v' Q I ru rw' q
  obtain ⟨a, dx, fs, rfl, ha, hy, q⟩ := q
  obtain rfl : v = .ref a := ru
  refine in_of I ha o.m2 hi ho ?_
  rcases hy with ⟨c, dy, gs, rfl, hc⟩ | ⟨i, rfl⟩
  · obtain rfl : v' = .ref c := rw'
    exact bin1_own2 F (hr.mono hk) b hm.at_ hm.fn o.sf I ha hc q
  · obtain ⟨t, rfl⟩ := rw'
    exact bin1_ownI F (hr.mono hk) b hm.at_ hm.fn o.sf (rc := some (.ref f')) hm'.at_ (.inr ⟨f', rfl⟩) h1 h2 h12 o.sI I ha q
end
theorem ip_addN {X : Cx} {C : Addr} {x : Str} {k k' j : Nat} {sp spR : Sp} (h : Mt ⟨X.prog, X.w, X.K, X.mg, X.base⟩ k C "__add__" sp) (h' : Mt ⟨X.prog, X.w, X.K, X.mg, X.base⟩ k' C "__radd__" spR) (o : OwnC X.K X.mg x C) (hi : PySem.W.findIn X.K (.ref C) "__iadd__" = some none) (hr : Room j X.A) (hk : k ≤ j) : PIp X .Add (rInp C sp) :=
  ip_num (op := .Add) h h' o hr hk (by decide +kernel) (by decide +kernel) hi (by with_unfolding_all rfl) (fo := some (.builtin "int.__add__")) (ro := some (.builtin "int.__radd__")) (by with_unfolding_all rfl) (by with_unfolding_all rfl) (by decide +kernel)
theorem ip_subN {X : Cx} {C : Addr} {x : Str} {k k' j : Nat} {sp spR : Sp} (h : Mt ⟨X.prog, X.w, X.K, X.mg, X.base⟩ k C "__sub__" sp) (h' : Mt ⟨X.prog, X.w, X.K, X.mg, X.base⟩ k' C "__rsub__" spR) (o : OwnC X.K X.mg x C) (hi : PySem.W.findIn X.K (.ref C) "__isub__" = some none) (hr : Room j X.A) (hk : k ≤ j) : PIp X .Sub (rInp C sp) :=
  ip_num (op := .Sub) h h' o hr hk (by decide +kernel) (by decide +kernel) hi (by with_unfolding_all rfl) (fo := some (.builtin "int.__sub__")) (ro := some (.builtin "int.__rsub__")) (by with_unfolding_all rfl) (by with_unfolding_all rfl) (by decide +kernel)
theorem ip_mulN {X : Cx} {C : Addr} {x : Str} {k k' j : Nat} {sp spR : Sp} (h : Mt ⟨X.prog, X.w, X.K, X.mg, X.base⟩ k C "__mul__" sp) (h' : Mt ⟨X.prog, X.w, X.K, X.mg, X.base⟩ k' C "__rmul__" spR) (o : OwnC X.K X.mg x C) (hi : PySem.W.findIn X.K (.ref C) "__imul__" = some none) (hr : Room j X.A) (hk : k ≤ j) : PIp X .Mult (rInp C sp) :=
  ip_num (op := .Mult) h h' o hr hk (by decide +kernel) (by decide +kernel) hi (by with_unfolding_all rfl) (fo := some (.builtin "int.__mul__")) (ro := some (.builtin "int.__rmul__")) (by with_unfolding_all rfl) (by with_unfolding_all rfl) (by decide +kernel)
theorem ip_fdN {X : Cx} {C : Addr} {x : Str} {k k' j : Nat} {sp spR : Sp} (h : Mt ⟨X.prog, X.w, X.K, X.mg, X.base⟩ k C "__floordiv__" sp) (h' : Mt ⟨X.prog, X.w, X.K, X.mg, X.base⟩ k' C "__rfloordiv__" spR) (o : OwnC X.K X.mg x C) (hi : PySem.W.findIn X.K (.ref C) "__ifloordiv__" = some none) (hr : Room j X.A) (hk : k ≤ j) : PIp X .FloorDiv (rInp C sp) :=
  ip_num (op := .FloorDiv) h h' o hr hk (by decide +kernel) (by decide +kernel) hi (by with_unfolding_all rfl) (fo := some (.builtin "int.__floordiv__")) (ro := some (.builtin "int.__rfloordiv__")) (by with_unfolding_all rfl) (by with_unfolding_all rfl) (by decide +kernel)
theorem ip_mdN {X : Cx} {C : Addr} {x : Str} {k k' j : Nat} {sp spR : Sp} (h : Mt ⟨X.prog, X.w, X.K, X.mg, X.base⟩ k C "__mod__" sp) (h' : Mt ⟨X.prog, X.w, X.K, X.mg, X.base⟩ k' C "__rmod__" spR) (o : OwnC X.K X.mg x C) (hi : PySem.W.findIn X.K (.ref C) "__imod__" = some none) (hr : Room j X.A) (hk : k ≤ j) : PIp X .Mod (rInp C sp) :=
  ip_num (op := .Mod) h h' o hr hk (by decide +kernel) (by decide +kernel) hi (by with_unfolding_all rfl) (fo := some (.builtin "int.__mod__")) (ro := some (.builtin "int.__rmod__")) (by with_unfolding_all rfl) (by with_unfolding_all rfl) (by decide +kernel)
section
variable {H : Hp} {Q : VK} {E : XK} {K : PySem.W.Frag} {C a : Addr} {t b t2 b2 : Int} {y : V} {ta : TE} {σ : L2.St}
theorem i_negR {f : Int → Int} (r : RatAt C H a t b) (o : Ok4 t b) (q : ∀ r H', H r = none → Same H H' → RatAt C H' r (Nu (f t) b) (De (f t) b) → Q (.ref r) H') : uOwn C (spUn C f) (.ref a) H Q := by
  obtain ⟨dx, e⟩ := _root_.id r
  exact ⟨a, dx, _, rfl, e, a, t, b, rfl, r, o, q⟩
theorem i_absR {f : Int → Int} (r : RatAt C H a t b) (o : Ok4 t b) (q : ∀ r H', H r = none → Same H H' → RatAt C H' r (Nu (f t) b) (De (f t) b) → Q (.ref r) H') : rCOwn C (spUn C f) [.ref a] H Q := by
  obtain ⟨dx, e⟩ := _root_.id r
  exact ⟨a, dx, _, rfl, e, a, t, b, rfl, r, o, q⟩
theorem i_strR {f : Int → Int → Str} (r : RatAt C H a t b) (z1 : Sz 1900 t) (z2 : Sz 1900 b) (q : Q (.str (f t b)) H) : rSOwn C (spTxt C f) [.ref a] H Q := by
  obtain ⟨dx, e⟩ := _root_.id r
  exact ⟨a, dx, _, rfl, e, a, t, b, rfl, r, z1, z2, ⟨_, rfl⟩, q⟩
theorem i_int1 {f : Int → Int → Int} (r : RatAt C H a t b) (h : 0 < b) (z : Sz 8900 b) (q : Q (.int (f t b)) H) : spInt C f [.ref a] H Q E := ⟨a, t, b, rfl, r, h, z, q⟩
theorem i_cmp {v : V} (r : RatAt C H a t b) (o : Ok4 t b) (n : Num C H v t2 b2) (o2 : Ok4 t2 b2) (q : ∀ H', Same H H' → Q (.int (cmpI t b t2 b2)) H') : spCmp C [.ref a, v] H Q E := ⟨a, v, t, b, t2, b2, rfl, r, o, n, o2, q⟩
theorem i_over {v : V} (r : RatAt C H a t b) (o : Ok4 t b) (n : Num C H v t2 b2) (o2 : Ok4 t2 b2) (h : t2 ≠ 0) (q : ∀ r H', H r = none → Same H H' → RatAt C H' r (Nu (oN t b t2 b2) (oD t b t2 b2)) (De (oN t b t2 b2) (oD t b t2 b2)) → Q (.ref r) H') : spOver C [.ref a, v] H Q E := ⟨a, v, t, b, t2, b2, rfl, r, o, n, o2, h, q⟩
theorem i_inp {nu de : Int → Int → Int → Int → Int} (r : RatAt C H a t b) (n : Num C H y t2 b2) (o : Ok4 t b) (o2 : Ok4 t2 b2) (q : pR C nu de t b t2 b2 H Q) : rInp C (spBin C nu de) (.ref a) y H Q := by
  obtain ⟨dx, e⟩ := _root_.id r
  refine ⟨a, dx, _, rfl, e, ?_, a, y, t, b, t2, b2, rfl, r, o, n, o2, q⟩
  rcases n with ⟨rfl, _⟩ | ⟨c, rfl, dy, e2⟩
  · exact .inr ⟨_, rfl⟩
  · exact .inl ⟨c, dy, _, rfl, e2⟩
theorem i_inpG {pre : Q4} {post : P4} (r : RatAt C H a t b) (n : Num C H y t2 b2) (o : Ok4 t b) (o2 : Ok4 t2 b2) (p : pre t b t2 b2) (q : post t b t2 b2 H Q) : rInp C (spBinG C pre post) (.ref a) y H Q := by
  obtain ⟨dx, e⟩ := _root_.id r
  refine ⟨a, dx, _, rfl, e, ?_, a, y, t, b, t2, b2, rfl, r, o, n, o2, p, q⟩
  rcases n with ⟨rfl, _⟩ | ⟨c, rfl, dy, e2⟩
  · exact .inr ⟨_, rfl⟩
  · exact .inl ⟨c, dy, _, rfl, e2⟩
/-- == of a Ratio and any number, from either side -/
def sameR (y : V) (t b t2 b2 : Int) : Bool := isRef y && (decide (t = t2) && decide (b = b2))
theorem i_eqL (r : RatAt C H a t b) (n : Num C H y t2 b2) (q : Q (.bl (sameR y t b t2 b2)) H) : rEqNum C (spREq C) (.ref a) y H Q := by
  obtain ⟨dx, e⟩ := _root_.id r
  refine .inl ⟨a, dx, _, rfl, e, ?_, a, y, t, b, t2, b2, rfl, r, n, q⟩
  rcases n with ⟨rfl, _⟩ | ⟨c, rfl, dy, e2⟩
  · exact .inr ⟨_, rfl⟩
  · exact .inl ⟨c, dy, _, rfl, e2⟩
theorem i_neL (r : RatAt C H a t b) (n : Num C H y t2 b2) (q : Q (.bl (!sameR y t b t2 b2)) H) : rNeNum C (spREq C) (.ref a) y H Q := by
  obtain ⟨dx, e⟩ := _root_.id r
  refine .inl ⟨a, dx, _, rfl, e, ?_, a, y, t, b, t2, b2, rfl, r, n, _, rfl, q⟩
  rcases n with ⟨rfl, _⟩ | ⟨c, rfl, dy, e2⟩
  · exact .inr ⟨_, rfl⟩
  · exact .inl ⟨c, dy, _, rfl, e2⟩
theorem dcomm (i j : Int) : decide (i = j) = decide (j = i) := by
  by_cases h : i = j
  · rw [h]
  · rw [decide_eq_false h, decide_eq_false fun z => h z.symm]
theorem i_eqR (r : RatAt C H a t b) (n : Num C H y t2 b2) (q : Q (.bl (sameR y t b t2 b2)) H) : rEqNum C (spREq C) y (.ref a) H Q := by
  obtain ⟨dx, e⟩ := _root_.id r
  rcases n with ⟨rfl, _⟩ | ⟨c, rfl, dy, e2⟩
  · exact .inr ⟨a, dx, _, t2, rfl, rfl, e, a, .int t2, t, b, t2, 1, rfl, r, num_int t2, _, rfl, q⟩
  · refine .inl ⟨c, dy, _, rfl, e2, .inl ⟨a, dx, _, rfl, e⟩, c, .ref a, t2, b2, t, b, rfl, ⟨dy, e2⟩, r.num, ?_⟩
    unfold sameR at q
    rw [dcomm t2, dcomm b2]
    exact q
theorem i_neR (r : RatAt C H a t b) (n : Num C H y t2 b2) (q : Q (.bl (!sameR y t b t2 b2)) H) : rNeNum C (spREq C) y (.ref a) H Q := by
  obtain ⟨dx, e⟩ := _root_.id r
  rcases n with ⟨rfl, _⟩ | ⟨c, rfl, dy, e2⟩
  · exact .inr ⟨a, dx, _, t2, rfl, rfl, e, a, .int t2, t, b, t2, 1, rfl, r, num_int t2, _, rfl, q⟩
  · refine .inl ⟨c, dy, _, rfl, e2, .inl ⟨a, dx, _, rfl, e⟩, c, .ref a, t2, b2, t, b, rfl, ⟨dy, e2⟩, r.num, _, rfl, ?_⟩
    unfold sameR at q
    rw [dcomm t2, dcomm b2]
    exact q
end
end Ly

namespace Ly
theorem nu_g {x y : Int} (h : y ≠ 0) : ∃ g, g ≠ 0 ∧ x = Nu x y * g ∧ y = De x y * g := by
  have hg := G_pos (t := x) h
  have e1 : x / G x y * G x y = x := Int.ediv_mul_cancel (G_dl x y)
  have e2 : y / G x y * G x y = y := Int.ediv_mul_cancel (G_dr x y)
  have n1 : G x y ∣ -x := (Int.dvd_neg).mpr (G_dl x y)
  have n2 : G x y ∣ -y := (Int.dvd_neg).mpr (G_dr x y)
  have e3 : -x / G x y * G x y = -x := Int.ediv_mul_cancel n1
  have e4 : -y / G x y * G x y = -y := Int.ediv_mul_cancel n2
  unfold Nu De
  by_cases hy : 0 < y
  · rw [if_pos hy, if_pos hy]
    exact ⟨G x y, by omega, e1.symm, e2.symm⟩
  · rw [if_neg hy, if_neg hy]
    refine ⟨-G x y, by omega, ?_, ?_⟩
    · rw [Int.mul_neg, e3, Int.neg_neg]
    · rw [Int.mul_neg, e4, Int.neg_neg]
theorem nu_cross {x y : Int} (h : y ≠ 0) : Nu x y * y = x * De x y := by
  obtain ⟨g, hg, e1, e2⟩ := nu_g (x := x) h
  have a1 : Nu x y * y = Nu x y * (De x y * g) := congrArg (Nu x y * ·) e2
  have a2 : x * De x y = Nu x y * g * De x y := congrArg (· * De x y) e1
  rw [a1, a2, Int.mul_assoc, Int.mul_comm g]
theorem Lo.scale' {t b s : Int} (l : Lo t b) (hs : s ≠ 0) : Nu (t * s) (b * s) = t ∧ De (t * s) (b * s) = b := by
  have hb := l.pos
  have eg : G (t * s) (b * s) = (s.natAbs : Int) := by
    unfold G
    rw [Int.gcd_mul_right, l.one, Nat.one_mul]
  unfold Nu De
  rw [eg]
  by_cases hp : 0 < s
  · have e : (s.natAbs : Int) = s := by omega
    rw [e, if_pos (Int.mul_pos hb hp), if_pos (Int.mul_pos hb hp)]
    exact ⟨Int.mul_ediv_cancel t hs, Int.mul_ediv_cancel b hs⟩
  · have e : (s.natAbs : Int) = -s := by omega
    have n : ¬ 0 < b * s := by
      intro z
      have := Int.mul_neg_of_pos_of_neg hb (show s < 0 by omega)
      omega
    rw [e, if_neg n, if_neg n, ← Int.mul_neg, ← Int.mul_neg]
    exact ⟨Int.mul_ediv_cancel t (by omega), Int.mul_ediv_cancel b (by omega)⟩
theorem nu_scale {x y s : Int} (h : y ≠ 0) (hs : s ≠ 0) : Nu (x * s) (y * s) = Nu x y ∧ De (x * s) (y * s) = De x y := by
  obtain ⟨g, hg, e1, e2⟩ := nu_g (x := x) h
  have k := (lo_nu (t := x) h).scale' (s := g * s) (Int.mul_ne_zero hg hs)
  rw [← Int.mul_assoc, ← Int.mul_assoc, ← e1, ← e2] at k
  exact k
theorem frest {x y : Int} (h : y ≠ 0) : (x - x.fdiv y * y).natAbs ≤ y.natAbs := by
  rcases Int.lt_or_gt_of_ne h with k | k
  · have e : x.fdiv y = (-x) / (-y) := by
      rw [(Int.neg_fdiv_neg x y).symm, Int.fdiv_eq_ediv_of_nonneg (-x) (by omega)]
    rw [e]
    have h1 := Int.mul_ediv_add_emod (-x) (-y)
    have h2 := Int.emod_nonneg (-x) (show (-y) ≠ 0 by omega)
    have h3 := Int.emod_lt_of_pos (-x) (show 0 < -y by omega)
    have h4 : -x / -y * y = -(-y * (-x / -y)) := by rw [Int.neg_mul, Int.neg_neg, Int.mul_comm]
    omega
  · have e : x.fdiv y = x / y := Int.fdiv_eq_ediv_of_nonneg x (by omega)
    rw [e]
    have h1 := Int.mul_ediv_add_emod x y
    have h2 := Int.emod_nonneg x (show y ≠ 0 by omega)
    have h3 := Int.emod_lt_of_pos x k
    have h4 : x / y * y = y * (x / y) := Int.mul_comm ..
    omega
theorem rest_le {t b t2 b2 : Int} (hb : 0 < b) (hb2 : 0 < b2) (h : t2 ≠ 0) : (rN t b t2 b2).natAbs ≤ (b * t2).natAbs := by
  have hy : b * t2 ≠ 0 := Int.mul_ne_zero (Int.ne_of_gt hb) h
  have eF : fQ t b t2 b2 = (t * b2).fdiv (b * t2) := (fdiv_nu hy).symm
  have h1 : (1 : Int) * b2 ≠ 0 := by omega
  have c := nu_cross (x := fQ t b t2 b2 * t2) h1
  have eT : rT t b t2 b2 = Nu (fQ t b t2 b2 * t2) (1 * b2) := rfl
  have eB : rB t b t2 b2 = De (fQ t b t2 b2 * t2) (1 * b2) := rfl
  rw [← eT, ← eB, Int.one_mul] at c
  have pB : 0 < rB t b t2 b2 := (lo_nu (t := fQ t b t2 b2 * t2) h1).pos
  have lB : (rB t b t2 b2).natAbs ≤ b2.natAbs := by
    have := de_le (fQ t b t2 b2 * t2) (1 * b2) h1
    rw [← eB, Int.one_mul] at this
    exact this
  have fr := frest (x := t * b2) hy
  rw [← eF] at fr
  have e : rN t b t2 b2 * b2 = rB t b t2 b2 * (t * b2 - fQ t b t2 b2 * (b * t2)) := by
    show (t * rB t b t2 b2 - rT t b t2 b2 * b) * b2 = _
    rw [Int.sub_mul, Int.mul_sub]
    have a1 : t * rB t b t2 b2 * b2 = rB t b t2 b2 * (t * b2) := by
      rw [Int.mul_comm t, Int.mul_assoc]
    have a2 : rT t b t2 b2 * b * b2 = rB t b t2 b2 * (fQ t b t2 b2 * (b * t2)) := by
      rw [Int.mul_assoc, Int.mul_comm b, ← Int.mul_assoc, c]
      rw [Int.mul_comm _ (rB t b t2 b2), Int.mul_assoc, Int.mul_assoc, Int.mul_comm t2]
    rw [a1, a2]
  have e2 : (rN t b t2 b2).natAbs * b2.natAbs = (rB t b t2 b2).natAbs * (t * b2 - fQ t b t2 b2 * (b * t2)).natAbs := by
    rw [← Int.natAbs_mul, e, Int.natAbs_mul]
  have p2 : 0 < b2.natAbs := by omega
  refine Nat.le_of_mul_le_mul_right (c := b2.natAbs) ?_ p2
  rw [e2, Nat.mul_comm]
  exact Nat.mul_le_mul fr lB
/-- the sizes of a rest -/
theorem sz_rest {t b t2 b2 : Int} {i j k : Nat} (hb : 0 < b) (hb2 : 0 < b2) (h : t2 ≠ 0) (zb : Sz i b) (z2 : Sz j t2) (zb2 : Sz k b2) : Sz (i + j) (Nu (rN t b t2 b2) (rD t b t2 b2)) ∧ Sz (i + k) (De (rN t b t2 b2) (rD t b t2 b2)) ∧ Lo (Nu (rN t b t2 b2) (rD t b t2 b2)) (De (rN t b t2 b2) (rD t b t2 b2)) := by
  have h1 : (1 : Int) * b2 ≠ 0 := by omega
  have eB : rB t b t2 b2 = De (fQ t b t2 b2 * t2) (1 * b2) := rfl
  have pB : 0 < rB t b t2 b2 := (lo_nu (t := fQ t b t2 b2 * t2) h1).pos
  have lB : (rB t b t2 b2).natAbs ≤ b2.natAbs := by
    have := de_le (fQ t b t2 b2 * t2) (1 * b2) h1
    rw [← eB, Int.one_mul] at this
    exact this
  have nD : rD t b t2 b2 ≠ 0 := Int.mul_ne_zero (Int.ne_of_gt hb) (Int.ne_of_gt pB)
  have zN : Sz (i + j) (rN t b t2 b2) := sz_le (sz_mul zb z2) (rest_le hb hb2 h)
  have zD : Sz (i + k) (rD t b t2 b2) := sz_mul zb (sz_le zb2 lB)
  exact ⟨sz_nu nD zN, sz_de nD zD, lo_nu nD⟩
end Ly

namespace Ly
open PySem PySem.Spec PyProof.Rows L2
section
variable {σ : L2.St} {H : Hp} {tt uu : TT} {b c : Bool} {D : Ends}
theorem i_andB {Q : Bool → Hp → Prop} (h1 : ∀ Q : Bool → Hp → Prop, Q b H → tt σ H Q) (h2 : ∀ Q : Bool → Hp → Prop, Q c H → uu σ H Q) (q : Q (b && c) H) : tAnd tt uu σ H Q := by
  refine h1 _ ?_
  show if b = true then uu σ H Q else Q false H
  cases b with
  | true => exact iteT (h2 _ q)
  | false => exact iteF q
theorem i_orB {Q : Bool → Hp → Prop} (h1 : ∀ Q : Bool → Hp → Prop, Q b H → tt σ H Q) (h2 : ∀ Q : Bool → Hp → Prop, Q c H → uu σ H Q) (q : Q (b || c) H) : tOr tt uu σ H Q := by
  refine h1 _ ?_
  show if b = true then Q true H else uu σ H Q
  cases b with
  | true => exact iteT q
  | false => exact iteF (h2 _ q)
theorem i_band {p q A B : Prop} [Decidable p] [Decidable q] (h1 : p → ¬ q → A) (h2 : B) : if (decide p && !decide q) = true then A else B := by
  by_cases hp : p
  · by_cases hq : q
    · rw [decide_eq_true hp, decide_eq_true hq]
      exact iteF h2
    · rw [decide_eq_true hp, decide_eq_false hq]
      exact iteT (h1 hp hq)
  · rw [decide_eq_false hp]
    exact iteF h2
/-! ### for .. in range(n) -/
def rFor (j : Nat) (tb : TS) (D : Ends) (σ : L2.St) : List V → Hp → Prop := fun vs H1 => ∃ k, vs = [.int k] ∧ -2 ^ 62 ≤ k ∧ k < 2 ^ 62 ∧ ∃ W : Nat → Nat → L2.St → Hp → Prop, (∃ m, W 0 m σ H1) ∧ ∀ (i m : Nat) (σ : L2.St) (H : Hp), W i m σ H → (Itr 0 k.toNat).stop i H ∧ D.nx σ H ∨ (Itr 0 k.toNat).go i H ∧ ∃ N, (∀ (σ' : L2.St) (H' : Hp), N σ' H' → ∃ m', m' < m ∧ W (i + 1) m' σ' H') ∧ ∀ (x : V) (H' : Hp), (Itr 0 k.toNat).yld i H x H' → gName j x σ H' fun σ2 H2 => tb { nx := N, rt := D.rt, bk := D.nx, ct := N } σ2 H2
theorem i_for {j : Nat} {tb : TS} {ta : TA} (q : ta σ H fun vs H1 => rFor j tb D σ vs H1) : tFor (iRng1 ta) (gName j) tb D σ H := q
theorem i_rfor {j : Nat} {tb : TS} {n : Int} (h0 : 0 ≤ n) (h1 : n ≤ 1000) (J : Nat → L2.St → Hp → Prop) (start : J 0 σ H)
    (step : ∀ (i : Nat) σ' H', (i : Int) < n → J i σ' H' → tb { nx := J (i + 1), rt := D.rt, bk := D.nx, ct := J (i + 1) } (σ'.set j (some (.int (i : Int)))) H')
    (fin : ∀ σ' H', J n.toNat σ' H' → D.nx σ' H') : rFor j tb D σ [.int n] H := by
  refine ⟨n, rfl, by omega, by omega, fun i m σ' H' => m = n.toNat - i ∧ i ≤ n.toNat ∧ J i σ' H', ⟨_, rfl, Nat.zero_le _, start⟩, ?_⟩
  rintro i m σ' H' ⟨rfl, hi, hJ⟩
  by_cases h : i < n.toNat
  · refine .inr ⟨h, J (i + 1), fun σ2 H2 h2 => ⟨_, ?_, rfl, h, h2⟩, ?_⟩
    · omega
    · rintro x H2 ⟨rfl, rfl⟩
      have e : (0 : Int) + (i : Int) = (i : Int) := Int.zero_add _
      rw [e]
      exact step i σ' H2 (by omega) hJ
  · have e : i = n.toNat := by omega
    subst e
    exact .inl ⟨Nat.le_refl _, fin σ' H' hJ⟩
end
end Ly
namespace Ly
open PySem PySem.Spec PyProof.Rows L2
theorem Num.nl {C : Addr} {H H' : Hp} {v : V} {t b : Int} (s : NL H H') (r : Num C H v t b) : Num C H' v t b := by
  rcases r with r | ⟨a, e, r⟩
  · exact .inl r
  · exact .inr ⟨a, e, r.nl s⟩
/-- all but one list stays -/
def KL (l : Addr) (H H' : Hp) : Prop := ∀ c o, c ≠ l → H c = some o → H' c = some o
theorem Same.kl {l : Addr} {H0 H H' : Hp} (k : KL l H H') (n : H0 l = none) (s : Same H0 H) : Same H0 H' := fun c o e => k c o (ne_of_none e n) (s _ _ e)
section
variable {K : PySem.W.Frag} {H : Hp} {Q : VK} {σ : L2.St} {D : Ends} {l : Addr} {xs : List V} {m : Nat} {v : V}
theorem i_getL (h : SqL K H l xs) (e : xs[m]? = some v) (q : Q v H) : rGetL K (.ref l) (.int m) H Q := ⟨l, xs, m, v, rfl, rfl, h, e, q⟩
theorem i_augS {to ti te : TE} {tget : V → V → Hp → VK → Prop} {tip : TIp} {tset : TSet} (q : to σ H fun o H1 => ti σ H1 fun i H2 => tget o i H2 fun x H3 => te σ H3 fun y H4 => tip x y H4 fun z H5 => tset o i z H5 fun H6 => D.nx σ H6) : tAugS to ti te tget tip tset D σ H := q
theorem i_aug {i : Nat} {x : V} {te : TE} {ti : TIp} (h : σ[i]? = some (some x)) (q : te σ H fun y H1 => ti x y H1 fun z H2 => D.nx (σ.set i (some z)) H2) : tAug i te ti D σ H := ⟨x, h, q⟩
theorem i_setL {R : Hp → Prop} {ys : List V} {i : Int} {j : Nat} (h : H l = some (.lst xs)) (e : ixN xs.length i = some j) (hy : xs.set j v = ys) (q : ∀ H', NL H H' → KL l H H' → H' l = some (.lst ys) → R H') : rSetL (.ref l) (.int i) v H R := by
  subst hy
  exact ⟨l, xs, i, j, rfl, rfl, h, e, q _ (NL.upd h) (fun c o n e => by rw [upd_ne n]; exact e) upd_same⟩
end
end Ly

namespace Ly
open PySem PySem.Spec PyProof.Rows L2
theorem str_ext {x y : Str} (h : x.cps.toList = y.cps.toList) : x = y := by
  cases x
  cases y
  congr 1
  exact Array.toList_inj.mp h
theorem app_toList (x y : Str) : (x ++ y).cps.toList = x.cps.toList ++ y.cps.toList := by
  show (x.cps ++ y.cps).toList = _
  exact Array.toList_append
theorem it_nat (n : Nat) : (It (n : Int)).cps.toList = TL.numL n := TL.tl_num n
theorem it_neg {n : Nat} (h : 0 < n) : (It (-(n : Int))).cps.toList = 45 :: TL.numL n := by
  have e : toString (-(n : Int)) = "-" ++ toString n := by
    cases n with
    | zero => omega
    | succ k => rfl
  have e2 : (Str.ofStringByList (toString n)).cps.toList = TL.numL n := by
    rw [← Str.ofString_eq_byList]
    exact TL.tl_num n
  unfold It
  rw [e, Str.ofString_eq_byList]
  unfold Str.ofStringByList at *
  simp only [String.toList_append, List.map_append]
  simp only [List.toList_toArray] at *
  rw [e2]
  rfl
/-- what stands ahead of the digits, and the digits -/
theorem it_cases (i : Int) : (0 ≤ i ∧ (It i).cps.toList = TL.numL i.natAbs) ∨ (i < 0 ∧ (It i).cps.toList = 45 :: TL.numL i.natAbs) := by
  rcases Int.lt_or_le i 0 with h | h
  · refine .inr ⟨h, ?_⟩
    have := it_neg (n := i.natAbs) (by omega)
    rw [show -(i.natAbs : Int) = i by omega] at this
    exact this
  · refine .inl ⟨h, ?_⟩
    have := it_nat i.natAbs
    rw [show (i.natAbs : Int) = i by omega] at this
    exact this
theorem it_free {i : Int} : 47 ∉ (It i).cps.toList := PyProof.Rows.int_text_free' 47 (by omega) i
theorem slash_cps : ("/" : Str).cps.toList = [47] := by decide +kernel
theorem minus_cps : ("-" : Str).cps.toList = [45] := by decide +kernel
theorem slash_one : ("/" : Str) = ⟨#[47]⟩ := by decide +kernel
/-! ### x.partition("/") -/
theorem split_one {l1 l2 m1 m2 : List Nat} {c : Nat} (h : l1 ++ c :: l2 = m1 ++ c :: m2) (h1 : c ∉ m1) (h2 : c ∉ m2) : l1 = m1 ∧ l2 = m2 := by
  induction l1 generalizing m1 with
  | nil =>
    cases m1 with
    | nil => exact ⟨rfl, (List.cons.inj h).2⟩
    | cons a m =>
      have := (List.cons.inj h).1
      subst this
      exact absurd (List.mem_cons_self ..) h1
  | cons a l ih =>
    cases m1 with
    | nil =>
      have e := (List.cons.inj h).2
      refine absurd ?_ h2
      rw [← e]
      simp
    | cons a' m =>
      have e := List.cons.inj h
      obtain ⟨e1, e2⟩ := ih e.2 (fun z => h1 (List.mem_cons_of_mem _ z))
      exact ⟨by rw [e.1, e1], e2⟩
theorem part_no {x : Str} (h : 47 ∉ x.cps.toList) : Txt.partition x ("/" : Str) = (x, Str.empty, Str.empty) := by
  have e := PyProof.Rows.empty_one x 47
  rw [decide_eq_false h, ← slash_one] at e
  unfold Txt.partition
  cases o : Builtin.Str.occurrences x ("/" : Str) 0 x.length 1 with
  | nil => rfl
  | cons i t =>
    rw [o] at e
    cases e
theorem part_yes {x p r : Str} (hx : x = p ++ ("/" : Str) ++ r) (h1 : 47 ∉ p.cps.toList) (h2 : 47 ∉ r.cps.toList) : Txt.partition x ("/" : Str) = (p, ("/" : Str), r) := by
  have mem : 47 ∈ x.cps.toList := by
    rw [hx, app_toList, app_toList, slash_cps]
    simp
  have e := PyProof.Rows.empty_one x 47
  rw [decide_eq_true mem, ← slash_one] at e
  have s := StrLaws.partition_sum x ("/" : Str)
  have y : (Txt.partition x ("/" : Str)).2.1 = ("/" : Str) := by
    unfold Txt.partition
    cases o : Builtin.Str.occurrences x ("/" : Str) 0 x.length 1 with
    | nil =>
      rw [o] at e
      cases e
    | cons i t => rfl
  rw [y] at s
  have l : (((Txt.partition x ("/" : Str)).1 ++ ("/" : Str)) ++ (Txt.partition x ("/" : Str)).2.2).cps.toList = x.cps.toList := congrArg (fun z : Str => z.cps.toList) s
  rw [hx, app_toList, app_toList, app_toList, app_toList, slash_cps] at l
  rw [List.append_assoc, List.append_assoc] at l
  obtain ⟨a1, a2⟩ := split_one l h1 h2
  rw [← hx] at a1 a2
  refine Prod.ext (str_ext a1) (Prod.ext y (str_ext a2))
/-! ### x.removeprefix("-") -/
theorem pre_no {x : Str} {c : Nat} {cs : List Nat} (h : x.cps.toList = c :: cs) (n : c ≠ 45) : Txt.removeprefix x ("-" : Str) = x := by
  unfold Txt.removeprefix
  have e : Builtin.Str.subAt x ("-" : Str) 0 = false := by
    unfold Builtin.Str.subAt
    rw [beq_eq_false_iff_ne]
    intro z
    have l := congrArg Array.toList z
    rw [minus_cps] at l
    rw [Array.toList_extract] at l
    have ml : ("-" : Str).length = 1 := by decide +kernel
    rw [ml] at l
    simp [h, List.extract] at l
    exact n l
  rw [if_neg (by rw [e]; exact Bool.false_ne_true)]
  rfl
theorem pre_yes {x : Str} {cs : List Nat} (h : x.cps.toList = 45 :: cs) : (Txt.removeprefix x ("-" : Str)).cps.toList = cs := by
  have ml : ("-" : Str).length = 1 := by decide +kernel
  have xl : x.length = cs.length + 1 := by
    show x.cps.size = _
    rw [← Array.length_toList, h]
    rfl
  have e : Builtin.Str.subAt x ("-" : Str) 0 = true := by
    unfold Builtin.Str.subAt
    rw [beq_iff_eq]
    apply Array.toList_inj.mp
    rw [minus_cps, Array.toList_extract, ml]
    simp [h, List.extract]
  unfold Txt.removeprefix
  rw [if_pos e, ml]
  unfold Txt.affix
  simp only
  rw [if_neg (by rw [xl]; simp)]
  unfold Builtin.Str.strSub
  simp only
  rw [Array.toList_extract, h, xl]
  simp [List.extract]
theorem same_upd {H : Hp} {p : Addr} {o : HO} (n : H p = none) : Same H (upd H p o) := fun c u e => by
  rw [upd_ne (ne_of_none e n)]
  exact e
end Ly

namespace Ly
open PySem PySem.Spec PyProof.Rows L2
section
variable {K : PySem.W.Frag} {σ : L2.St} {H : Hp} {Q : VK} {te : TE} {x : Str} {n j : Nat} {vs : List Nat}
/-- over the signs of a text, no test -/
theorem i_lcS (G : Nat → Hp → V → Prop) (hv : σ[n]? = some (some (.str x))) (hz : x.length ≤ 1000) (mono : ∀ i H1 H2 v, NL H1 H2 → G i H1 v → G i H2 v) (hw : ∀ y, wipe ((wipe σ vs).set j (some y)) vs = wipe σ vs)
    (turn : ∀ i c H' (Q' : VK), x.cps[i]? = some c → Same H H' → (∀ y H4, Same H' H4 → G i H4 y → Q' y H4) → te ((wipe σ vs).set j (some (.str ⟨#[c]⟩))) H' Q')
    (fin : ∀ r H' ys, H r = none → Same H H' → H' r = some (.lst ys) → ys.length = x.length → (∀ i v, ys[i]? = some v → G i H' v) → Q (.ref r) H') : tLc (iStr (tVar n)) (gName j) tYes te vs σ H Q := by
  refine ⟨_, hv, x, rfl, fun D nD => ?_⟩
  have same0 : Same H (upd H D (.lst [])) := fun c o e => by
    rw [upd_ne (ne_of_none e nD)]
    exact e
  refine ⟨fun i m H' => m = x.cps.size - i ∧ i ≤ x.cps.size ∧ ∃ ys, H' D = some (.lst ys) ∧ ys.length = i ∧ Same H H' ∧ ∀ k v, ys[k]? = some v → G k H' v, ⟨_, rfl, Nat.zero_le _, [], upd_same, rfl, same0, fun m v e => by simp at e⟩, ?_⟩
  rintro i m H' ⟨rfl, hi, ys, hD, hy, s, g⟩
  by_cases h : i < x.cps.size
  · refine .inr ⟨h, fun H2 => ∃ ys, H2 D = some (.lst ys) ∧ ys.length = i + 1 ∧ Same H H2 ∧ ∀ k v, ys[k]? = some v → G k H2 v, fun H2 h2 => ⟨_, by omega, rfl, h, h2⟩, ?_⟩
    rintro v H2 ⟨rfl, c, hc, rfl⟩
    refine ⟨hw _, ?_⟩
    show te ((wipe σ vs).set j (some (.str ⟨#[c]⟩))) H2 _
    refine turn i c H2 _ hc s fun y H4 s4 gy => ⟨ys, s4 _ _ hD, by rw [hy]; exact small1000 (Nat.le_trans (Nat.le_of_lt h) hz), ys ++ [y], upd_same, by rw [List.length_append, hy]; rfl, fun c o e => ?_, fun k v e => ?_⟩
    · rw [upd_ne (ne_of_none e nD)]
      exact s4 _ _ (s _ _ e)
    · have kk := NL.upd (ys := ys ++ [y]) (s4 _ _ hD)
      rcases Nat.lt_or_ge k ys.length with h | h
      · rw [List.getElem?_append_left h] at e
        exact mono k _ _ v kk (mono k _ _ v (NL.same s4) (g k v e))
      · rw [List.getElem?_append_right h] at e
        have : k - ys.length = 0 := by
          have := (List.getElem?_eq_some_iff.mp e).1
          simp at this
          omega
        rw [this] at e
        have e2 : y = v := Option.some.inj e
        subst e2
        have : k = i := by omega
        subst this
        exact mono _ _ _ y kk gy
  · have e : i = x.cps.size := by omega
    subst e
    exact .inl ⟨Nat.le_refl _, fin D H' ys nD s hD hy g⟩
end

/-- pointwise bools -/
theorem bl_map {α : Type} {l : List α} {f : α → Bool} {ys : List V} (hl : ys.length = l.length) (h : ∀ (i : Nat) (v : V), ys[i]? = some v → ∃ c, l[i]? = some c ∧ v = V.bl (f c)) : ys = (l.map f).map V.bl := by
  apply List.ext_getElem?
  intro i
  rcases Nat.lt_or_ge i ys.length with k | k
  · obtain ⟨c, hc, e⟩ := h i ys[i] (List.getElem?_eq_getElem k)
    rw [List.getElem?_eq_getElem k, e, List.getElem?_map, List.getElem?_map, hc]
    rfl
  · rw [List.getElem?_eq_none k, List.getElem?_eq_none (by rw [List.length_map, List.length_map]; omega)]
theorem i_all {K : PySem.W.Frag} {H : Hp} {Q : VK} {r : Addr} {bs : List Bool} (h : H r = some (.lst (bs.map V.bl))) (q : Q (.bl (bs.all id)) H) : rAll K [.ref r] H Q := ⟨r, bs, rfl, SqL.of h, q⟩
end Ly

namespace Ly
open PySem PySem.Spec PyProof.Rows L2
theorem Dr.nl {p : Addr} {H H' : Hp} (k : Dr p H H') : NL H H' := fun q o n e => k.keep q o (k.ne e fun a b z => n _ z) e
theorem Dr.upd {p q : Addr} {H H' : Hp} {o : HO} (k : Dr p H H') (h : H q = none) (n : q ≠ p) : Dr p H (upd H' q o) := k.mut h n
/-! ### comprehensions, staged: the iterator first -/
section
variable {K : PySem.W.Frag} {σ : L2.St} {H : Hp} {Q : VK} {te : TE} {tt : TT} {p : Addr} {xs : List V} {n j : Nat} {vs : List Nat}
def rLc (J : L2.It) (g : TG) (tt : TT) (te : TE) (vs : List Nat) (σ : L2.St) (H1 : Hp) (Q : VK) : Prop := ∀ D : Addr, H1 D = none → ∃ W : Nat → Nat → Hp → Prop, (∃ m, W 0 m (L2.upd H1 D (.lst []))) ∧ ∀ (i m : Nat) (H : Hp), W i m H → J.stop i H ∧ Q (.ref D) H ∨ J.go i H ∧ ∃ Nx : Hp → Prop, (∀ H', Nx H' → ∃ m', m' < m ∧ W (i + 1) m' H') ∧
  ∀ (x : V) (H' : Hp), J.yld i H x H' → g x (wipe σ vs) H' fun σ2 H2 => wipe σ2 vs = wipe σ vs ∧ tt σ2 H2 fun b H3 => if b = true then te σ2 H3 fun y H4 => ∃ acc, H4 D = some (.lst acc) ∧ acc.length < sizeLine ∧ Nx (L2.upd H4 D (.lst (acc ++ [y]))) else Nx H3
def rLcR (g : TG) (tt : TT) (te : TE) (ws : List Nat) (σ : L2.St) : List V → Hp → VK → Prop := fun vs H1 Q => ∃ k, vs = [.int k] ∧ -2 ^ 62 ≤ k ∧ k < 2 ^ 62 ∧ rLc (Itr 0 k.toNat) g tt te ws σ H1 Q
theorem i_lcr {g : TG} {ta : TA} (q : ta σ H fun vs' H1 => rLcR g tt te vs σ vs' H1 Q) : tLc (iRng1 ta) g tt te vs σ H Q := q
def rLcL (K : PySem.W.Frag) (g : TG) (tt : TT) (te : TE) (ws : List Nat) (σ : L2.St) : V → Hp → VK → Prop := fun x H1 Q => ∃ a, x = .ref a ∧ (∃ xs, SqL K H1 a xs) ∧ rLc (Itl K a) g tt te ws σ H1 Q
theorem i_lcl {g : TG} {tl : TE} (q : tl σ H fun x H1 => rLcL K g tt te vs σ x H1 Q) : tLc (iList K tl) g tt te vs σ H Q := q
/-- over a range, drawing -/
theorem i_rlcRp {m : Int} (G : Nat → Hp → V → Prop) (hp : Pot H p) (h0 : 0 ≤ m) (h1 : m ≤ 1000) (mono : ∀ i H1 H2 v, NL H1 H2 → G i H1 v → G i H2 v) (hw : ∀ x, wipe ((wipe σ vs).set j (some x)) vs = wipe σ vs)
    (turn : ∀ (i : Nat) H' (Q' : VK), (i : Int) < m → Dr p H H' → (∀ y H4, Dr p H' H4 → G i H4 y → Q' y H4) → te ((wipe σ vs).set j (some (.int (i : Int)))) H' Q')
    (fin : ∀ r H' ys, H r = none → Dr p H H' → H' r = some (.lst ys) → ys.length = m.toNat → (∀ i v, ys[i]? = some v → G i H' v) → Q (.ref r) H') : rLcR (gName j) tYes te vs σ [.int m] H Q := by
  refine ⟨m, rfl, by omega, by omega, fun D nD => ?_⟩
  have ne := fresh_ne hp nD
  have d0 : Dr p H (L2.upd H D (.lst [])) := (Dr.refl hp).mut nD ne
  refine lc_range (lo := 0) (n := m.toNat) (fun i H' => ∃ ys, H' D = some (.lst ys) ∧ ys.length = i ∧ i ≤ m.toNat ∧ Dr p H H' ∧ ∀ k v, ys[k]? = some v → G k H' v)
    ⟨[], upd_same, rfl, Nat.zero_le _, d0, fun m v e => by simp at e⟩ ?_ ?_
  · rintro i H' hi ⟨ys, hD, hy, hle, d, g⟩
    have e0 : (0 : Int) + (i : Int) = (i : Int) := Int.zero_add _
    rw [e0]
    refine ⟨hw _, ?_⟩
    show te ((wipe σ vs).set j (some (.int (i : Int)))) H' _
    refine turn i H' _ (by omega) d fun y H4 d4 gy => ?_
    have hD4 := d4.keep D _ ne hD
    refine ⟨ys, hD4, by rw [hy]; exact small1000 (by omega), ys ++ [y], upd_same, by rw [List.length_append, hy]; rfl, hi, (d.trans d4).mut nD ne, fun k v e => ?_⟩
    have kk := NL.upd (ys := ys ++ [y]) hD4
    rcases Nat.lt_or_ge k ys.length with h | h
    · rw [List.getElem?_append_left h] at e
      exact mono k _ _ v kk (mono k _ _ v d4.nl (g k v e))
    · rw [List.getElem?_append_right h] at e
      have : k - ys.length = 0 := by
        have := (List.getElem?_eq_some_iff.mp e).1
        simp at this
        omega
      rw [this] at e
      have e2 : y = v := Option.some.inj e
      subst e2
      have : k = i := by omega
      subst this
      exact mono _ _ _ y kk gy
  · rintro H' ⟨ys, hD, hy, _, d, g⟩
    exact fin D H' ys nD d hD hy g
/-- over a list, drawing -/
theorem i_rlcLp {l : Addr} (G : Nat → Hp → V → Prop) (hp : Pot H p) (hl : H l = some (.lst xs)) (nl : l ≠ p) (hz : xs.length ≤ 1000) (mono : ∀ i H1 H2 v, NL H1 H2 → G i H1 v → G i H2 v) (hw : ∀ x, wipe ((wipe σ vs).set j (some x)) vs = wipe σ vs)
    (turn : ∀ (i : Nat) x H' (Q' : VK), xs[i]? = some x → Dr p H H' → (∀ y H4, Dr p H' H4 → G i H4 y → Q' y H4) → te ((wipe σ vs).set j (some x)) H' Q')
    (fin : ∀ r H' ys, H r = none → Dr p H H' → H' r = some (.lst ys) → ys.length = xs.length → (∀ i v, ys[i]? = some v → G i H' v) → Q (.ref r) H') : rLcL K (gName j) tYes te vs σ (.ref l) H Q := by
  refine ⟨l, rfl, ⟨xs, SqL.of hl⟩, fun D nD => ?_⟩
  have ne := fresh_ne hp nD
  have d0 : Dr p H (L2.upd H D (.lst [])) := (Dr.refl hp).mut nD ne
  refine lc_list (K := K) (a := l) (xs := xs) (fun i H' => ∃ ys, H' D = some (.lst ys) ∧ ys.length = i ∧ i ≤ xs.length ∧ Dr p H H' ∧ ∀ k v, ys[k]? = some v → G k H' v)
    ⟨[], upd_same, rfl, Nat.zero_le _, d0, fun m v e => by simp at e⟩ (fun i H' _ ⟨_, _, _, _, d, _⟩ => SqL.of (d.keep _ _ nl hl)) ?_ ?_
  · rintro i x H' hi ⟨ys, hD, hy, hle, d, g⟩
    have hlt : i < xs.length := (List.getElem?_eq_some_iff.mp hi).1
    refine ⟨hw _, ?_⟩
    show te ((wipe σ vs).set j (some x)) H' _
    refine turn i x H' _ hi d fun y H4 d4 gy => ?_
    have hD4 := d4.keep D _ ne hD
    refine ⟨ys, hD4, by rw [hy]; exact small1000 (by omega), ys ++ [y], upd_same, by rw [List.length_append, hy]; rfl, hlt, (d.trans d4).mut nD ne, fun k v e => ?_⟩
    have kk := NL.upd (ys := ys ++ [y]) hD4
    rcases Nat.lt_or_ge k ys.length with h | h
    · rw [List.getElem?_append_left h] at e
      exact mono k _ _ v kk (mono k _ _ v d4.nl (g k v e))
    · rw [List.getElem?_append_right h] at e
      have : k - ys.length = 0 := by
        have := (List.getElem?_eq_some_iff.mp e).1
        simp at this
        omega
      rw [this] at e
      have e2 : y = v := Option.some.inj e
      subst e2
      have : k = i := by omega
      subst this
      exact mono _ _ _ y kk gy
  · rintro H' ⟨ys, hD, hy, _, d, g⟩
    exact fin D H' ys nD d hD hy g
/-- over a list, filtered, nothing changes but what is new -/
theorem i_rlcF {l : Addr} (P : V → Bool) (f : V → V) (hl : SqL K H l xs) (keep : ∀ H', Same H H' → SqL K H' l xs) (hz : xs.length ≤ 1000) (hw : ∀ x, wipe ((wipe σ vs).set j (some x)) vs = wipe σ vs)
    (test : ∀ x H' (R : Bool → Hp → Prop), x ∈ xs → Same H H' → R (P x) H' → tt ((wipe σ vs).set j (some x)) H' R)
    (elt : ∀ x H' (Q' : VK), x ∈ xs → P x = true → Same H H' → (∀ H4, Same H' H4 → Q' (f x) H4) → te ((wipe σ vs).set j (some x)) H' Q')
    (fin : ∀ r H', H r = none → Same H H' → H' r = some (.lst ((xs.filter P).map f)) → Q (.ref r) H') : rLcL K (gName j) tt te vs σ (.ref l) H Q := by
  refine ⟨l, rfl, ⟨xs, hl⟩, fun D nD => ?_⟩
  have same0 : Same H (L2.upd H D (.lst [])) := fun c o e => by
    rw [upd_ne (ne_of_none e nD)]
    exact e
  refine lc_list (K := K) (a := l) (xs := xs) (fun i H' => H' D = some (.lst (((xs.take i).filter P).map f)) ∧ Same H H') ⟨by simp [upd_same], same0⟩ (fun i H' _ h => keep H' h.2) ?_ ?_
  · rintro i x H' hi ⟨hD, s⟩
    have hlt : i < xs.length := (List.getElem?_eq_some_iff.mp hi).1
    have hx : x ∈ xs := List.mem_of_getElem? hi
    have ht : xs.take (i + 1) = xs.take i ++ [x] := by
      rw [List.take_add_one, hi]
      rfl
    have hle : (((xs.take i).filter P).map f).length < sizeLine := by
      rw [List.length_map]
      have h1 := List.length_filter_le P (xs.take i)
      have h2 := List.length_take_le i xs
      exact small1000 (by omega)
    refine ⟨hw _, ?_⟩
    show tt ((wipe σ vs).set j (some x)) H' _
    refine test x H' _ hx s ?_
    by_cases hP : P x = true
    · rw [if_pos hP]
      refine elt x H' _ hx hP s fun H4 s4 => ⟨_, s4 _ _ hD, hle, ?_, ?_⟩
      · rw [ht, List.filter_append, List.map_append, List.filter_cons, if_pos hP]
        exact upd_same
      · intro c o e
        rw [upd_ne (ne_of_none e nD)]
        exact s4 _ _ (s _ _ e)
    · rw [if_neg hP]
      refine ⟨?_, s⟩
      rw [ht, List.filter_append, List.map_append, List.filter_cons, if_neg hP]
      simpa using hD
  · rintro H' ⟨hD, s⟩
    rw [List.take_length] at hD
    exact fin D H' nD s hD
/-- over a range, nothing changes but what is new -/
theorem i_rlcRF {m : Int} (f : Nat → V) (h0 : 0 ≤ m) (h1 : m ≤ 1000) (hw : ∀ x, wipe ((wipe σ vs).set j (some x)) vs = wipe σ vs)
    (elt : ∀ (i : Nat) H' (Q' : VK), (i : Int) < m → Same H H' → (∀ H4, Same H' H4 → Q' (f i) H4) → te ((wipe σ vs).set j (some (.int (i : Int)))) H' Q')
    (fin : ∀ r H', H r = none → Same H H' → H' r = some (.lst ((List.range m.toNat).map f)) → Q (.ref r) H') : rLcR (gName j) tYes te vs σ [.int m] H Q := by
  refine ⟨m, rfl, by omega, by omega, fun D nD => ?_⟩
  have same0 : Same H (L2.upd H D (.lst [])) := fun c o e => by
    rw [upd_ne (ne_of_none e nD)]
    exact e
  refine lc_range (lo := 0) (n := m.toNat) (fun i H' => i ≤ m.toNat ∧ H' D = some (.lst ((List.range i).map f)) ∧ Same H H') ⟨Nat.zero_le _, by simp [upd_same], same0⟩ ?_ ?_
  · rintro i H' hi ⟨hle, hD, s⟩
    have e0 : (0 : Int) + (i : Int) = (i : Int) := Int.zero_add _
    rw [e0]
    refine ⟨hw _, ?_⟩
    show te ((wipe σ vs).set j (some (.int (i : Int)))) H' _
    refine elt i H' _ (by omega) s fun H4 s4 => ⟨_, s4 _ _ hD, ?_, hi, ?_, ?_⟩
    · rw [List.length_map, List.length_range]
      exact small1000 (by omega)
    · rw [List.range_succ, List.map_append]
      exact upd_same
    · intro c o e
      rw [upd_ne (ne_of_none e nD)]
      exact s4 _ _ (s _ _ e)
  · rintro H' ⟨_, hD, s⟩
    exact fin D H' nD s hD
end
/-! ### lists of texts -/
section
variable {K : PySem.W.Frag} {σ : L2.St} {H : Hp} {Q : VK} {l : Addr} {xs : List V} {ys : List Str} {x y : Str} {v : V} {ta tb : TE} {t : TA}
theorem inV_strs (x : Str) (ys : List Str) : inV (.str x) (ys.map V.str) = decide (x ∈ ys) := by
  induction ys with
  | nil => rfl
  | cons y ys ih =>
    have e : inV (.str x) ((y :: ys).map V.str) = (y == x || inV (.str x) (ys.map V.str)) := rfl
    rw [e, ih]
    by_cases h : y = x
    · subst h
      simp
    · have h2 : ¬ x = y := fun z => h z.symm
      simp [h, h2]
theorem flat_strs (ys : List Str) : (ys.map V.str).all flatV = true := by
  induction ys with
  | nil => rfl
  | cons y ys ih => simp [flatV] at ih ⊢
theorem i_inS (h : H l = some (.lst (ys.map V.str))) (q : Q (.bl (decide (x ∈ ys))) H) : rIn K false (.str x) (.ref l) H Q := ⟨l, _, rfl, .inl (SqL.of h), rfl, flat_strs ys, by rw [inV_strs]; exact q⟩
theorem i_niS (h : H l = some (.lst (ys.map V.str))) (q : Q (.bl (!decide (x ∈ ys))) H) : rIn K true (.str x) (.ref l) H Q := ⟨l, _, rfl, .inl (SqL.of h), rfl, flat_strs ys, by rw [inV_strs]; exact q⟩
def rJoin (K : PySem.W.Frag) : V → List V → Hp → VK → Prop := fun x xs H Q => ∃ a p, ∃ ys : List Str, x = .str a ∧ xs = [.ref p] ∧ (SqL K H p (ys.map V.str) ∨ SqT K H p (ys.map V.str)) ∧ (ys.map (·.length)).sum + ys.length * a.length ≤ 16777216 ∧ Q (.str (Txt.join a ys)) H
def rM1 (r : V → List V → Hp → VK → Prop) : V → V → Hp → VK → Prop := fun x y H2 Q => r x [y] H2 Q
theorem i_join {a : Str} (h : H l = some (.lst (ys.map V.str))) (z : (ys.map (·.length)).sum + ys.length * a.length ≤ 16777216) (q : Q (.str (Txt.join a ys)) H) : rJoin K (.str a) [.ref l] H Q := ⟨a, l, ys, rfl, rfl, .inl (SqL.of h), z, q⟩
theorem i_tM1 {r : V → List V → Hp → VK → Prop} (q : ta σ H fun x H1 => (∃ a, x = .str a) ∧ tb σ H1 fun y H2 => r x [y] H2 Q) : tM1 r ta tb σ H Q := q
theorem i_tBM {T : String} {r : V → List V → Hp → VK → Prop} (q : ta σ H fun x H1 => tyV K T x H1 ∧ t σ H1 fun vs H2 => r x vs H2 Q) : tBM K T r ta t σ H Q := q
theorem ty_lst (h : H l = some (.lst xs)) : tyV K "list" (.ref l) H := .inl ⟨rfl, _, SqL.of h⟩
theorem i_append (h : H l = some (.lst xs)) (z : xs.length ≤ 1000) (q : ∀ H', NL H H' → KL l H H' → H' l = some (.lst (xs ++ [v])) → Q .non H') : rAppend (.ref l) [v] H Q := ⟨l, xs, v, rfl, rfl, h, small1000 z, q _ (NL.upd h) (fun c o n e => by rw [upd_ne n]; exact e) upd_same⟩
theorem i_popAt {k : Nat} (h : H l = some (.lst xs)) (z : xs.length ≤ 1000) (e : xs[k]? = some v) (q : ∀ H', NL H H' → KL l H H' → H' l = some (.lst (xs.eraseIdx k)) → Q v H') : rPopAt (.ref l) [.int k] H Q := by
  have hk : k < xs.length := (List.getElem?_eq_some_iff.mp e).1
  refine ⟨l, xs, (k : Int), k, v, rfl, rfl, h, by omega, by omega, ?_, e, q _ (NL.upd h) (fun c o n e => by rw [upd_ne n]; exact e) upd_same⟩
  unfold seqIndex?
  simp
  omega
theorem i_ixS {z : Str} {c : Nat} {i : Nat} (hz : z.length ≤ 1000) (e : z.cps.toList[i]? = some c) (q : Q (.str ⟨#[c]⟩) H) : rIx K (.str z) (.int i) H Q := .inr (.inr ⟨z, (i : Int), c, rfl, rfl, Nat.le_of_lt (small1000 hz), atI_nat e, q⟩)
end
section
variable {X : Cx} {K : PySem.W.Frag} {o e : Expr} {es : List Expr} {to te : TE} {t : TA} {name : Str} {apos cpos : Pos} {T id : String} {r : V → List V → Hp → VK → Prop}
theorem pe_bmK (hK : X.K = K) (pa : PlainAttrs T) (sl : Slot T name id) (ty : typeOf (Value.builtin id) = pure (Value.type "method_descriptor")) (m : MtR X id r) (he : PE X o to) (ha : PA X (e :: es) t)
    (h1 : attributeBase o name X.env (eval o X.env) = eval o X.env := by rfl)
    (h2 : (((backTo cpos (starEach (e :: es) X.env)).all fun x => !x.1) && ((backToKw cpos (keywordEach [] X.env)).all fun x => x.1.isSome) && decide ((e :: es).length + ([] : List Keyword).length + (if ([] : List Keyword).isEmpty = true then 0 else 1) < 30)) = true := by rfl)
    (h3 : (apos.endLine == cpos.line) = true := by rfl) (h4 : starEach (e :: es) X.env = (false, eval e X.env) :: starEach es X.env := by rfl) (h5 : ((backTo cpos (starEach es X.env)).any fun x => x.1) = false := by rfl) :
    PE X (.Call (.Attribute o name apos) (e :: es) [] cpos) (tBM K T r to t) := by
  subst hK
  exact pe_bm pa sl ty m he ha h1 h2 h3 h4 h5
theorem pe_joinK (hK : X.K = K) (he : PE X o to) (ha : PE X e te) (h4 : starEach [e] X.env = [(false, eval e X.env)] := by rfl)
    (h1 : attributeBase o "join" X.env (eval o X.env) = eval o X.env := by rfl) (h3 : (apos.endLine == cpos.line) = true := by rfl) :
    PE X (.Call (.Attribute o "join" apos) [e] [] cpos) (tM1 (rJoin K) to te) := by
  subst hK
  exact pe_join he ha h4 h1 h3
theorem pi_listK {tg : Expr} (hK : X.K = K) (he : PE X e te) : PI X tg e (iList K te) := by
  subst hK
  exact pi_list he
end
def rListOf (K : PySem.W.Frag) : List V → Hp → VK → Prop := fun xs H Q => ∃ p ys, xs = [.ref p] ∧ (SqL K H p ys ∨ SqT K H p ys) ∧ ∀ l : Addr, H l = none → Q (.ref l) (upd H l (.lst ys))
theorem call_listU {X : Cx} : CallR X (.type "list") (rListOf X.K) := call_list_of
theorem i_listL {K : PySem.W.Frag} {H : Hp} {Q : VK} {p : Addr} {ys : List V} (h : H p = some (.lst ys)) (q : ∀ l H', H l = none → H' l = some (.lst ys) → Same H H' → Q (.ref l) H') : rListOf K [.ref p] H Q := ⟨p, ys, rfl, .inl (SqL.of h), i_new q⟩
theorem i_yes {σ : L2.St} {H : Hp} {R : Bool → Hp → Prop} (q : R true H) : tYes σ H R := q
theorem erase_perm {α : Type} : ∀ {xs : List α} {k : Nat} (h : k < xs.length), ([xs[k]] ++ xs.eraseIdx k).Perm xs
  | x :: xs, 0, _ => List.Perm.refl _
  | x :: xs, k + 1, h => by
    have hk : k < xs.length := by simpa using h
    have ih := erase_perm (xs := xs) (k := k) hk
    show (xs[k] :: x :: xs.eraseIdx k).Perm (x :: xs)
    exact (List.Perm.swap x xs[k] _).trans (ih.cons x)
theorem i_bor {p q A B : Prop} [Decidable p] [Decidable q] (h1 : A) (h2 : ¬ p → ¬ q → B) : if (decide p || decide q) = true then A else B := by
  by_cases hp : p
  · rw [decide_eq_true hp]
    exact iteT h1
  · by_cases hq : q
    · rw [decide_eq_true hq, Bool.or_true]
      exact iteT h1
    · rw [decide_eq_false hp, decide_eq_false hq]
      exact iteF (h2 hp hq)
section
variable {σ : L2.St} {H : Hp} {Q : VK} {K : PySem.W.Frag} {te : TE} {tl th : TO} {r : V → Option Int → Option Int → Hp → VK → Prop} {p : Addr} {xs : List V}
theorem i_sl (q : te σ H fun x H1 => tl σ H1 fun l H2 => th σ H2 fun u H3 => r x l u H3 Q) : tSl r te tl th σ H Q := q
theorem i_noPart {R : Option Int → Hp → Prop} (q : R none H) : tNoPart σ H R := q
theorem cut_to (xs : List V) {n : Nat} (h : n ≤ xs.length) : cutV xs none (some (n : Int)) = xs.take n := by
  unfold cutV HT.sIx
  simp only [Nat.sub_zero, List.drop_zero]
  rw [if_neg (by omega), Int.toNat_natCast, Nat.min_eq_left h]
theorem i_slTo {n : Nat} (h : H p = some (.lst xs)) (z : n ≤ xs.length) (q : ∀ r H', H r = none → H' r = some (.lst (xs.take n)) → Same H H' → Q (.ref r) H') : rSlL K (.ref p) none (some (n : Int)) H Q := ⟨p, xs, rfl, SqL.of h, by rw [cut_to xs z]; exact i_new q⟩
theorem i_part {R : Option Int → Hp → Prop} (q : te σ H fun x H1 => ∃ i, x = .int i ∧ R (some i) H1) : tPart te σ H R := q
end
end Ly

namespace Ly
open PySem PySem.Spec PyProof.Rows L2
/-! ### defs that are called where no repr is under way: then lists may be shown -/
structure FnG (P : Program) (w : World) (K : PySem.W.Frag) (mg : Str → Option Value) (base : Heap) (k : Nat) (f : Addr) (fd : FuncData) (ps : List Str) (sp : Sp) : Prop where
  len : ∀ vs H Q E, sp vs H Q E → vs.length = ps.length
  run : ∀ (A : Around) (outer : List Env) (s : Shared) (H : Hp) (args : Args) (us : List Value) (vs : List V) (Q : VK) (E : XK),
    Room k A → A.guards = some [] → Env0 P w K mg base A outer s H → BindsTo s fd args (ps.zip us) → Vals vs us → sp vs H Q E → codeAny (model P w) A (.call (.ref f) args) (CR CX0 outer P w H s Q E) s
theorem FnG.mono {P : Program} {w : World} {K : PySem.W.Frag} {mg : Str → Option Value} {base : Heap} {k j : Nat} {f : Addr} {fd : FuncData} {ps : List Str} {sp : Sp} (F : FnG P w K mg base k f fd ps sp) (h : k ≤ j) : FnG P w K mg base j f fd ps sp :=
  ⟨F.len, fun A outer s H args us vs Q E hr hg => F.run A outer s H args us vs Q E (hr.mono h) hg⟩
/-- a plain one is one -/
theorem FnG.of {P : Program} {w : World} {K : PySem.W.Frag} {mg : Str → Option Value} {base : Heap} {k : Nat} {f : Addr} {fd : FuncData} {ps : List Str} {sp : Sp} (F : FnOk P w K mg base CX0 k f fd ps sp) : FnG P w K mg base k f fd ps sp :=
  ⟨F.len, fun A outer s H args us vs Q E hr _ => F.run A outer s H args us vs Q E hr⟩
theorem fng_of {P : Program} {w : World} {K : PySem.W.Frag} {mg : Str → Option Value} {base : Heap} {k : Nat} {f : Addr} {name qual : Str} {params : Arguments} {body : List Stmt} {scope : Scope} {dV kV doc pm cdv ct oc : Value} {an od : Option Addr} {osl : Array (Option Value)} {N ps : List Str} {sp : Sp}
    (lk : K.lookup f = some ⟨oc, od, .func (PySem.W.fnOf name qual params body scope dV kV doc pm an cdv ct), osl⟩) (hcd : PySem.W.codeIn K cdv qual = true) (S : FnScope N ps scope) (len : ∀ vs H Q E, sp vs H Q E → vs.length = ps.length)
    (hbody : ∀ (A : Around) (outer : List Env) (s : Shared) (H : Hp) (vs : List V) (Q : VK) (E : XK), Room k (A.deeper (envOfC qual scope s.heap.objs.size f cdv)) → A.guards = some [] → sp vs H Q E →
      ∃ t, PSs (cxOf CX0 P w K mg base N qual scope f cdv A outer s H E) body t ∧ t { nx := fun _ H' => Q .non H', rt := Q } (L2.start N vs) H) :
    FnG P w K mg base (k + 1) f (PySem.W.fnOf name qual params body scope dV kV doc pm an cdv ct) ps sp := by
  refine ⟨len, fun A outer s H args us vs Q E hr hg e0 hb r hsp => ?_⟩
  have hl := len vs H Q E hsp
  have KX := PySem.W.Frag.In.keeps e0.mod.kin fun b o e => (e0.bs b o e).1
  have lim := Heap.NoLimit.keeps e0.mod.nolimit fun b o e => (e0.bs b o e).1
  have hkind : ∀ x : Str × Value, x ∈ ps.zip us → List.lookup x.1 scope.names = some NameKind.local ∨ List.lookup x.1 scope.names = some NameKind.cell ∧ (List.lookup x.1 (cellsFrom (s.heap.objs.size + 1) scope.names [])).isSome = true := fun x hy => by
    obtain ⟨n, v⟩ := x
    rcases S.par n (List.of_mem_zip hy).1 with q | q
    · exact Or.inl q
    · exact Or.inr ⟨q, PySem.W.cellsFrom_some scope.names (s.heap.objs.size + 1) [] (Or.inl q)⟩
  refine codeAny_call_function (Room.depth hr) (KX f _ lk) rfl S.co S.gen rfl (PySem.W.codeRec_of KX hcd) (hb (model P w) A.in1 _ _ ?_)
  refine wpAny_newFunctionEnv_cells S.kind hkind fun env he s1 x => ?_
  subst he
  refine ⟨Heap.NoLimit.keeps lim x.toInCall.keep, codeAny_func ?_⟩
  obtain ⟨t, ht, hq⟩ := hbody A outer s H vs Q E (Room.deeper hr (envOfC qual scope s.heap.objs.size f cdv)) hg hsp
  have I := inv_start (CX := CX0) (E := E) S hr.hd e0 hl r x
  refine wpAny_mono (ht.run [] s1 (L2.start N vs) H _ I hq) (fun fl s' hs => ?_) fun e s' hs => hs
  cases fl with
  | next =>
    obtain ⟨σ', H', J, q⟩ := hs
    exact ⟨.non, H', J.os, J.bare, J.base, J.hok, rfl, q⟩
  | brk =>
    obtain ⟨_, _, _, q⟩ := hs
    exact q.elim
  | cont =>
    obtain ⟨_, _, _, q⟩ := hs
    exact q.elim
  | ret u =>
    obtain ⟨v, σ', H', J, rv, q⟩ := hs
    exact ⟨v, H', J.os, J.bare, J.base, J.hok, rv, q⟩
section
variable {X : Cx} {k j : Nat} {f : Addr} {fd : FuncData} {ps : List Str} {sp : Sp} {pins : List (Addr × Obj)} {σ : L2.St} {H : Hp} {s : Shared} {Q : VK} {us : List Value} {vs : List V}
theorem run_fng (F : FnG X.prog X.w X.K X.mg X.base k f fd ps sp) (hr : Room k X.A) (hg : X.A.guards = some []) (hb : Binds X.K fd ps []) (I : Inv X pins σ H s) (r : Vals vs us) (h : sp vs H Q E0) :
    wpAny (model X.prog X.w) X.A (call (.ref f) us) (EP X pins σ Q) X.xe s := by
  have hl := F.len vs H Q E0 h
  refine wpAny_call (codeAny_mono (F.run X.A X.stack s H ⟨us, []⟩ us vs Q E0 hr hg I.env0 ?_ r h) fun r' s' hq => ?_)
  · have := hb s us I.kIn (by rw [List.append_nil, ← r.length]; exact hl)
    rw [List.append_nil] at this
    exact this
  · match r', hq with
    | .error e, hq => exact pass0 pins σ H s e s' I hq
    | .ok .next, hq => exact hq.elim
    | .ok .brk, hq => exact hq.elim
    | .ok .cont, hq => exact hq.elim
    | .ok (.ret u), hq => exact Inv.after I hq
end
/-- a def that may be called by its name, where no repr is under way -/
structure ClG (W : Wd) (k : Nat) (x : Str) (sp : Sp) : Prop where
  ex : ∃ (f : Addr) (fd : FuncData) (ps : List Str), FnG W.P W.w W.K W.mg W.base k f fd ps sp ∧ W.mg x = some (.ref f) ∧ PySem.W.keepIn W.K (.ref f) = true ∧ Binds W.K fd ps []
/-- a body that may show lists -/
def BodyG (W : Wd) (k : Nat) (N : List Str) (qual : Str) (st : Stmt) (sp : Sp) : Prop :=
  ∀ (f : Addr) (cdv : Value) (A : Around) (outer : List Env) (s : Shared) (H : Hp) (vs : List V) (Q : VK) (E : XK), Room k (A.deeper (envOfC qual (defScope st) s.heap.objs.size f cdv)) → (A.deeper (envOfC qual (defScope st) s.heap.objs.size f cdv)).guards = some [] → sp vs H Q E →
      ∃ t, PSs (cxOf CX0 W.P W.w W.K W.mg W.base N qual (defScope st) f cdv A outer s H E).nox (defBody st) t ∧ t { nx := fun _ H' => Q .non H', rt := Q } (start N vs) H
theorem fng_fun {W : Wd} {k : Nat} {x qual : Str} {st : Stmt} {f : Addr} {fd : FuncData} {N ps : List Str} {sp : Sp} (F : L2.Fun W.K x qual st f fd) (S : FnScope N ps (defScope st)) (len : ∀ vs H Q E, sp vs H Q E → vs.length = ps.length) (hbody : BodyG W k N qual st sp) : FnG W.P W.w W.K W.mg W.base (k + 1) f fd ps sp := by
  obtain ⟨oc, od, kV, doc, pm, an, cdv, ct, osl, rfl, lk, hcd⟩ := F.ex
  refine fng_of lk hcd S len fun A outer s H vs Q E hr hg hsp => ?_
  obtain ⟨t, h, q⟩ := hbody f cdv A outer s H vs Q E hr hg hsp
  exact ⟨t, h.nox, q⟩
theorem clg_of {W : Wd} {k : Nat} {x : Str} {st : Stmt} {N ps : List Str} {sp : Sp} (g : GF W.K W.mg x st) (S : FnScope N ps (defScope st)) (hb : BindOk x x st ps) (len : ∀ vs H Q E, sp vs H Q E → vs.length = ps.length) (hbody : BodyG W k N x st sp) : ClG W (k + 1) x sp := by
  obtain ⟨f, fd, F, hm⟩ := g.ex
  exact ⟨f, fd, ps, fng_fun F S len hbody, hm, F.kp, F.binds hb⟩
section
variable {X : Cx} {k j : Nat} {x : Str} {sp : Sp} {p pos : Pos} {e : Expr} {es : List Expr} {t : TA}
theorem pe_clG (c : ClG ⟨X.prog, X.w, X.K, X.mg, X.base⟩ k x sp) (hr : Room j X.A) (hgd : X.A.guards = some []) (hk : k ≤ j) (hg : Gl X x) (ha : PA X (e :: es) t)
    (hdb : (x == ("__debug__" : Str)) = false := by decide) (he : starEach (e :: es) X.env = (false, eval e X.env) :: starEach es X.env := by rfl) (hpl : (backTo pos (starEach es X.env)).any (·.1) = false := by rfl) :
    PE X (.Call (.Name x p) (e :: es) [] pos) (tCall sp [] E0 t) := by
  obtain ⟨f, fd, ps, F, hm, kp, b⟩ := c.ex
  refine ⟨fun pins s σ H Q I h => wpAny_Call_Name_kw (ld_glob I hg hm (PySem.W.callWith_K I.ok.mod.kin kp (thn (ha.run pos pins s σ H _ I h) fun us s1 x => ?_) he hpl) hdb)⟩
  obtain ⟨vs, H1, I1, r, q⟩ := x
  rw [List.append_nil] at q
  exact ⟨I1.kIn, run_fng F (hr.mono hk) hgd b I1 r q⟩
/-- repr of a list or a tuple of plain data -/
def rReprD (K : PySem.W.Frag) : List V → Hp → VK → Prop := fun xs H Q => ∃ (a : Addr) (d : PyData), xs = [.ref a] ∧ Dp K H (.ref a) d ∧ d.showable = true ∧ d.hasDict = false ∧ d.depth ≤ 40 ∧ d.shown.length ≤ sizeLine ∧ Q (.str d.shown) H
theorem call_reprD (hr : Room j X.A) (hgd : X.A.guards = some []) : CallR X (.builtin "repr") (rReprD X.K) := by
  intro pins s σ H xs us Q I r q
  obtain ⟨a, d, rfl, hd, sh, nd, dp, ln, q⟩ := q
  obtain ⟨u, rfl, ru⟩ := vals1 r
  cases ru
  obtain ⟨as, hR⟩ := Dp.reads I d _ _ hd rfl
  have hu := hr.un
  refine PySem.repr_of_reads' hR sh (fun z => by rw [nd] at z; cases z) hgd (by omega) (fun b o e => e) (fun h' u tk hk => ?_) ln
  exact ⟨.str d.shown, H, I.turnedL (ch := []) (fun b o _ e => hk b o e) (fun b z => by cases z), ⟨u, rfl⟩, q⟩
end
end Ly

namespace Ly
open PySem PySem.Spec PyProof.Rows L2
/-- the law's call: of a def that may show lists -/
theorem law_callG {P : Program} {w : World} {K : PySem.W.Frag} {mg mb : Str → Option Value} {k : Nat} {fa a : Addr} {fd : FuncData} {x : Str} {sp : Sp} {s₁ : Shared} {vs : List Value} {ns : List Int}
    (KX : K.In s₁.heap) (hns : s₁.heap.Ns mainGlobals mg) (hb : s₁.heap.Ns builtinsNs mb) (hbb : ∀ x : Str, x ≠ "__name__" → mb x = bootBuiltins x) (hlim : s₁.heap.NoLimit) (hgen : s₁.gens = #[])
    (ha : s₁.heap.get? a = some { cls := .type "list", data := .seq vs.toArray }) (hi : IntsAre vs ns) (hl : ns.length ≤ sizeLine) (hr : Room k callerA)
    (F : ∀ base : Heap, K.In base → base.Ns mainGlobals mg → FnG P w K mg base k fa fd [x] sp) (hbind : ∀ (s : Shared) (u : Value), BindsTo s fd ⟨[u], []⟩ [(x, u)])
    (hsp : ∀ H : Hp, Only H → SqL K H a (ns.map V.int) → sp [.ref a] H (fun v _ => v = .bl true) fun _ _ _ => False) :
    codeAny (model P w) callerA (.call (.ref fa) ⟨[.ref a], []⟩) (fun r s' => r = .ok (.ret (.bool true)) ∧ OldK s₁.heap s'.heap ∧ s'.os = s₁.os ∧ AllBare s'.gens) s₁ := by
  have rv := vals_ints hi
  have lenV := IntsAre.length hi
  have core : ∀ H : Hp, Only H → SqL K H a (ns.map V.int) → HOk P w H s₁.heap → (∀ b, H b ≠ none → b = a) → (H a ≠ none → K.lookup a = none) →
      codeAny (model P w) callerA (.call (.ref fa) ⟨[.ref a], []⟩) (fun r s' => r = .ok (.ret (.bool true)) ∧ OldK s₁.heap s'.heap ∧ s'.os = s₁.os ∧ AllBare s'.gens) s₁ := by
    intro H hO hS hok hA hK
    have noA : ∀ {b : Addr} {o : Obj} {es : Array DictEntry} {ep : Nat}, s₁.heap.get? b = some o → o.data = .dict es ep → H b = none := by
      intro b o es ep e d
      cases q : H b with
      | none => rfl
      | some u =>
        have eb := hA b (by rw [q]; exact Option.some_ne_none _)
        subst eb
        rw [ha] at e
        cases e
        cases d
    have nsK : ∀ {b : Addr} {m : Str → Option Value}, s₁.heap.Ns b m → (hidT s₁.heap H).Ns b m := by
      rintro b m ⟨o, es, ep, e, d, r⟩
      exact ⟨o, es, ep, hidT_get e (noA e d), d, r⟩
    have hKb : K.In (hidT s₁.heap H) := by
      intro b o e
      refine hidT_get (KX b o e) ?_
      cases q : H b with
      | none => rfl
      | some u =>
        have n : H b ≠ none := by rw [q]; exact Option.some_ne_none _
        have eb := hA b n
        subst eb
        rw [hK n] at e
        cases e
    have hM : Mod K mg (hidT s₁.heap H) := ⟨hKb, nsK hns, ⟨mb, nsK hb, hbb⟩, by
      obtain ⟨mc, h1, h2⟩ := hlim
      exact ⟨mc, nsK h1, h2⟩⟩
    have e0 : Env0 P w K mg (hidT s₁.heap H) callerA [] s₁ H := ⟨rfl, hM, fun b o e => of_hidT e, Nat.le_of_eq (hidT_size s₁.heap H), trivial, fun b z => (by cases z), hok, AllBare.of_eq hgen⟩
    refine codeAny_mono ((F (hidT s₁.heap H) hKb (nsK hns)).run callerA [] s₁ H ⟨[.ref a], []⟩ [.ref a] [.ref a] (fun v _ => v = .bl true) (fun _ _ _ => False) hr rfl e0 (hbind s₁ (.ref a)) (.cons rfl .nil) (hsp H hO hS)) ?_
    intro r s' h
    match r, h with
    | .error e, h => exact (show False from h).elim
    | .ok .next, h => exact h.elim
    | .ok .brk, h => exact h.elim
    | .ok .cont, h => exact h.elim
    | .ok (.ret u), h =>
      obtain ⟨v, H', os, bare, un, hok', r', q⟩ := h
      subst q
      obtain rfl : u = .bool true := r'
      refine ⟨rfl, OldK.of_keep fun b o e => ?_, os, bare⟩
      cases q : H b with
      | none => exact un.keep b o e q (by simp [frs]) (by simp)
      | some u =>
        rcases hO b with z | ⟨ob, xs, z⟩
        · rw [q] at z
          cases z
        · have z2 := un.frzs b ob (.lst xs) z
          obtain ⟨e1, _⟩ := hok b (.frz ob (.lst xs)) z
          obtain ⟨e2, _⟩ := hok' b (.frz ob (.lst xs)) z2
          rw [e] at e1
          cases e1
          exact e2
  cases hk : K.lookup a with
  | none =>
    refine core (fun b => if b = a then some (.frz { cls := .type "list", data := .seq vs.toArray } (.lst (ns.map V.int))) else none) (fun b => ?_) ?_ (fun b u z => ?_) (fun b z => ?_) fun _ => hk
    · by_cases h : b = a
      · exact .inr ⟨_, _, if_pos h⟩
      · exact .inl (if_neg h)
    · exact .inl (.inr ⟨_, if_pos rfl⟩)
    · by_cases h : b = a
      · subst h
        have z' : some (HO.frz { cls := .type "list", data := .seq vs.toArray } (.lst (ns.map V.int))) = some u := (if_pos rfl).symm.trans z
        cases z'
        exact ⟨ha, by rw [List.length_map]; exact hl, vs, 0, rv, ha⟩
      · have z' : none = some u := (if_neg h).symm.trans z
        cases z'
    · by_cases h : b = a
      · exact h
      · exact absurd (if_neg h) z
  | some o =>
    have e := KX a o hk
    rw [ha] at e
    cases e
    refine core (fun _ => none) (fun _ => .inl rfl) (.inr ⟨_, vs.toArray, 0, hk, rfl, rfl, rfl, ?_, rv⟩) (fun b u z => by cases z) (fun b z => absurd rfl z) fun z => absurd rfl z
    rw [List.size_toArray, lenV]
    exact hl
theorem walk_ofG {l : PySem.W.OpenLaw} {n k : Nat} {q : Program} {loose : List Str} {XP : (Str → Option Value) → Heap → Prop} {YP : World → Heap → Prop} {d : DefRec} {K : Params → PySem.W.Frag} {sp : World → Sp} {x : Str} (hn : l.most = some n) (hn2 : n ≤ sizeLine) (hdf : d.params.defaults = []) (hr : Room k callerA)
    (hY : ∀ (w : World) (h : Heap), YP w h → (K w.params).In h)
    (F : ∀ (w : World) (mg : Str → Option Value) (fa : Addr) (h : Heap), (K w.params).In h → h.Ns mainGlobals mg → mg d.name = some (.ref fa) → ∃ fd : FuncData, (∀ (s : Shared) (u : Value), BindsTo s fd ⟨[u], []⟩ [(x, u)]) ∧ ∀ base : Heap, (K w.params).In base → base.Ns mainGlobals mg → FnG l.prog w (K w.params) mg base k fa fd [x] (sp w))
    (hsp : ∀ (w : World) (H : Hp) (a : Addr) (ns : List Int), ns.length ≤ n → Only H → SqL (K w.params) H a (ns.map V.int) → sp w [.ref a] H (fun v _ => v = .bl true) fun _ _ _ => False) :
    PySem.W.WalkO q loose XP YP l.row.toRowW d [] (fun f vs => PySem.call f vs) := by
  refine Att.attach_call hn hdf fun w s₀ s₁ mg mb fa o pm cd doc a vs ns G Y ho hd hcd hmg hobj hints hlen hg => ?_
  have KX := hY w s₁.heap Y
  obtain ⟨fd, hb, hF⟩ := F w mg fa s₁.heap KX G.T.g hmg
  exact law_callG KX G.T.g G.T.b G.T.builtins G.T.nolimit hg hobj hints (Nat.le_trans hlen hn2) hr hF hb fun H hO hS => hsp w H a ns hlen hO hS
end Ly

namespace Ly
open PySem PySem.Spec PyProof.Rows L2
/-! ### tuples of texts, in order -/
def lexS (r : Str → Str → Bool) (z : Nat → Nat → Bool) (xs ys : List Str) : Bool :=
  Ob.lexAt (fun j => xs.getD j Str.empty == ys.getD j Str.empty) (fun j => r (xs.getD j Str.empty) (ys.getD j Str.empty)) (z xs.length ys.length) 0 (min xs.length ys.length)
def rTS (K : PySem.W.Frag) (r : Str → Str → Bool) (z : Nat → Nat → Bool) : R2 := fun x y H Q => ∃ (a b : Addr) (xs ys : List Str), x = .ref a ∧ y = .ref b ∧ SqT K H a (xs.map V.str) ∧ SqT K H b (ys.map V.str) ∧ Q (.bl (lexS r z xs ys)) H
def ltS (x y : Str) : Bool := decide (x.cps.toList < y.cps.toList)
def leS (x y : Str) : Bool := !decide (y.cps.toList < x.cps.toList)
def gtS (x y : Str) : Bool := decide (y.cps.toList < x.cps.toList)
def geS (x y : Str) : Bool := !decide (x.cps.toList < y.cps.toList)
theorem strs_at {xs : List Str} {its : List Value} (r : Vals (xs.map V.str) its) : its.length = xs.length ∧ ∀ (j : Nat) (h : j < its.toArray.size), ∃ t, its.toArray[j] = .str (xs.getD j Str.empty) t := by
  have e := r.length
  rw [List.length_map] at e
  refine ⟨e.symm, fun j h => ?_⟩
  have hj : j < its.length := by simpa using h
  have hx : (xs.map V.str)[j]? = some (V.str (xs.getD j Str.empty)) := by
    rw [List.getElem?_map, List.getD_eq_getElem?_getD]
    have : j < xs.length := by omega
    simp [this]
  obtain ⟨u, eu, ru⟩ := r.get hx
  obtain ⟨t, rfl⟩ := ru
  refine ⟨t, ?_⟩
  have : its[j]? = some its[j] := List.getElem?_eq_getElem hj
  rw [this] at eu
  simpa using Option.some.inj eu
section
variable {X : Cx}
theorem op_ltTS (hu : X.A.units < cLine) : OpR X (compareOp .Lt) (rTS X.K ltS fun n m => decide (n < m)) := by
  intro pins s σ H x y v u Q I rx ry q
  obtain ⟨a, b, xs, ys, rfl, rfl, ha, hb, q⟩ := q
  cases rx
  cases ry
  obtain ⟨its, r1, p1, _⟩ := I.tuple ha
  obtain ⟨its2, r2, p2, _⟩ := I.tuple hb
  obtain ⟨l1, f1⟩ := strs_at r1
  obtain ⟨l2, f2⟩ := strs_at r2
  refine Ob.RcOp.tuples_lt (e := fun j => xs.getD j Str.empty == ys.getD j Str.empty) (r := fun j => ltS (xs.getD j Str.empty) (ys.getD j Str.empty)) p1 p2 hu ?_ ?_ _ _ _ _ ?_
  · intro j h1 h2
    obtain ⟨t, e1⟩ := f1 j h1
    obtain ⟨t2, e2⟩ := f2 j h2
    rw [e1, e2]
    exact SeqAt.EqAt.str_str _ _ _ _
  · intro j h1 h2 _
    obtain ⟨t, e1⟩ := f1 j h1
    obtain ⟨t2, e2⟩ := f2 j h2
    rw [e1, e2]
    intro prog w E Q' hq
    exact lt_str hq
  · refine ⟨.bl _, H, I, rfl, ?_⟩
    have e : Ob.lexAt (fun j => xs.getD j Str.empty == ys.getD j Str.empty) (fun j => ltS (xs.getD j Str.empty) (ys.getD j Str.empty)) (decide (its.toArray.size < its2.toArray.size)) 0 (min its.toArray.size its2.toArray.size) = lexS ltS (fun n m => decide (n < m)) xs ys := by
      unfold lexS
      rw [List.size_toArray, List.size_toArray, l1, l2]
    rw [e]
    exact q
theorem op_leTS (hu : X.A.units < cLine) : OpR X (compareOp .LtE) (rTS X.K leS fun n m => decide (n ≤ m)) := by
  intro pins s σ H x y v u Q I rx ry q
  obtain ⟨a, b, xs, ys, rfl, rfl, ha, hb, q⟩ := q
  cases rx
  cases ry
  obtain ⟨its, r1, p1, _⟩ := I.tuple ha
  obtain ⟨its2, r2, p2, _⟩ := I.tuple hb
  obtain ⟨l1, f1⟩ := strs_at r1
  obtain ⟨l2, f2⟩ := strs_at r2
  refine Ob.RcOp.tuples_le (e := fun j => xs.getD j Str.empty == ys.getD j Str.empty) (r := fun j => leS (xs.getD j Str.empty) (ys.getD j Str.empty)) p1 p2 hu ?_ ?_ _ _ _ _ ?_
  · intro j h1 h2
    obtain ⟨t, e1⟩ := f1 j h1
    obtain ⟨t2, e2⟩ := f2 j h2
    rw [e1, e2]
    exact SeqAt.EqAt.str_str _ _ _ _
  · intro j h1 h2 _
    obtain ⟨t, e1⟩ := f1 j h1
    obtain ⟨t2, e2⟩ := f2 j h2
    rw [e1, e2]
    intro prog w E Q' hq
    exact P.le_str hq
  · refine ⟨.bl _, H, I, rfl, ?_⟩
    have e : Ob.lexAt (fun j => xs.getD j Str.empty == ys.getD j Str.empty) (fun j => leS (xs.getD j Str.empty) (ys.getD j Str.empty)) (decide (its.toArray.size ≤ its2.toArray.size)) 0 (min its.toArray.size its2.toArray.size) = lexS leS (fun n m => decide (n ≤ m)) xs ys := by
      unfold lexS
      rw [List.size_toArray, List.size_toArray, l1, l2]
    rw [e]
    exact q
theorem op_gtTS (hu : X.A.units < cLine) : OpR X (compareOp .Gt) (rTS X.K gtS fun n m => decide (n > m)) := by
  intro pins s σ H x y v u Q I rx ry q
  obtain ⟨a, b, xs, ys, rfl, rfl, ha, hb, q⟩ := q
  cases rx
  cases ry
  obtain ⟨its, r1, p1, _⟩ := I.tuple ha
  obtain ⟨its2, r2, p2, _⟩ := I.tuple hb
  obtain ⟨l1, f1⟩ := strs_at r1
  obtain ⟨l2, f2⟩ := strs_at r2
  refine Ob.RcOp.tuples_gt (e := fun j => xs.getD j Str.empty == ys.getD j Str.empty) (r := fun j => gtS (xs.getD j Str.empty) (ys.getD j Str.empty)) p1 p2 hu ?_ ?_ _ _ _ _ ?_
  · intro j h1 h2
    obtain ⟨t, e1⟩ := f1 j h1
    obtain ⟨t2, e2⟩ := f2 j h2
    rw [e1, e2]
    exact SeqAt.EqAt.str_str _ _ _ _
  · intro j h1 h2 _
    obtain ⟨t, e1⟩ := f1 j h1
    obtain ⟨t2, e2⟩ := f2 j h2
    rw [e1, e2]
    intro prog w E Q' hq
    exact P.gt_str hq
  · refine ⟨.bl _, H, I, rfl, ?_⟩
    have e : Ob.lexAt (fun j => xs.getD j Str.empty == ys.getD j Str.empty) (fun j => gtS (xs.getD j Str.empty) (ys.getD j Str.empty)) (decide (its.toArray.size > its2.toArray.size)) 0 (min its.toArray.size its2.toArray.size) = lexS gtS (fun n m => decide (n > m)) xs ys := by
      unfold lexS
      rw [List.size_toArray, List.size_toArray, l1, l2]
    rw [e]
    exact q
theorem op_geTS (hu : X.A.units < cLine) : OpR X (compareOp .GtE) (rTS X.K geS fun n m => decide (n ≥ m)) := by
  intro pins s σ H x y v u Q I rx ry q
  obtain ⟨a, b, xs, ys, rfl, rfl, ha, hb, q⟩ := q
  cases rx
  cases ry
  obtain ⟨its, r1, p1, _⟩ := I.tuple ha
  obtain ⟨its2, r2, p2, _⟩ := I.tuple hb
  obtain ⟨l1, f1⟩ := strs_at r1
  obtain ⟨l2, f2⟩ := strs_at r2
  refine Ob.RcOp.tuples_ge (e := fun j => xs.getD j Str.empty == ys.getD j Str.empty) (r := fun j => geS (xs.getD j Str.empty) (ys.getD j Str.empty)) p1 p2 hu ?_ ?_ _ _ _ _ ?_
  · intro j h1 h2
    obtain ⟨t, e1⟩ := f1 j h1
    obtain ⟨t2, e2⟩ := f2 j h2
    rw [e1, e2]
    exact SeqAt.EqAt.str_str _ _ _ _
  · intro j h1 h2 _
    obtain ⟨t, e1⟩ := f1 j h1
    obtain ⟨t2, e2⟩ := f2 j h2
    rw [e1, e2]
    intro prog w E Q' hq
    exact P.ge_str hq
  · refine ⟨.bl _, H, I, rfl, ?_⟩
    have e : Ob.lexAt (fun j => xs.getD j Str.empty == ys.getD j Str.empty) (fun j => geS (xs.getD j Str.empty) (ys.getD j Str.empty)) (decide (its.toArray.size ≥ its2.toArray.size)) 0 (min its.toArray.size its2.toArray.size) = lexS geS (fun n m => decide (n ≥ m)) xs ys := by
      unfold lexS
      rw [List.size_toArray, List.size_toArray, l1, l2]
    rw [e]
    exact q
/-! ### own objects by their own <, <=, >, >=, and == beside values of any kind -/
theorem op_cmp2 {op : CmpOp} {C f : Addr} {fd : FuncData} {ps : List Str} {sp : Sp} {k : Nat} (h0 : compareOp op = richCompare op) (F : FnOk X.prog X.w X.K X.mg X.base CX0 k f fd ps sp) (hr : Room k X.A) (hb : Binds X.K fd ps []) (hs : PySem.W.findIn X.K (.ref C) (cmpInfo op).2.1 = some (some (.ref f))) (hf : PySem.W.isFn X.K (.ref f) = true) : OpR X (compareOp op) (rOwn2 C sp) := by
  intro pins s σ H x y v u Q I rx ry q
  obtain ⟨a, b, dx, dy, fs, gs, rfl, rfl, ha, hb', q⟩ := q
  cases rx
  cases ry
  obtain ⟨mA, J, _⟩ := ins_get I.hok ha
  obtain ⟨mB, J', _⟩ := ins_get I.hok hb'
  obtain ⟨od, J, _⟩ := J.look
  obtain ⟨od', J', _⟩ := J'.look
  obtain ⟨m, hF⟩ := I.fr
  rw [h0]
  exact PySem.W.cmp_K (op := op) (tb := .ref C) hr.units0 hF I.ok.mod.kin J J'.type (by simp [PySem.W.notFirst]) hs hf (cmpback (run_fn (us := [.ref a, .ref b]) (vs := [.ref a, .ref b]) (Q := Q) F hr hb .nil pass0 I (.cons rfl (.cons rfl .nil)) q))
theorem cmp2_m {op : CmpOp} {C : Addr} {m : Str} {sp : Sp} {k j : Nat} (h : Mt ⟨X.prog, X.w, X.K, X.mg, X.base⟩ k C m sp) (hr : Room j X.A) (hk : k ≤ j) (h0 : compareOp op = richCompare op) (e : (cmpInfo op).2.1 = m) : OpR X (compareOp op) (rOwn2 C sp) := by
  subst e
  obtain ⟨f, fd, ps, hm, F, b⟩ := h.ex
  exact op_cmp2 h0 F (hr.mono hk) b hm.at_ hm.fn
theorem lt_m {C : Addr} {sp : Sp} {k j : Nat} (h : Mt ⟨X.prog, X.w, X.K, X.mg, X.base⟩ k C "__lt__" sp) (hr : Room j X.A) (hk : k ≤ j) : OpR X (compareOp .Lt) (rOwn2 C sp) := cmp2_m h hr hk rfl rfl
theorem le_m {C : Addr} {sp : Sp} {k j : Nat} (h : Mt ⟨X.prog, X.w, X.K, X.mg, X.base⟩ k C "__le__" sp) (hr : Room j X.A) (hk : k ≤ j) : OpR X (compareOp .LtE) (rOwn2 C sp) := cmp2_m h hr hk rfl rfl
theorem gt_m {C : Addr} {sp : Sp} {k j : Nat} (h : Mt ⟨X.prog, X.w, X.K, X.mg, X.base⟩ k C "__gt__" sp) (hr : Room j X.A) (hk : k ≤ j) : OpR X (compareOp .Gt) (rOwn2 C sp) := cmp2_m h hr hk rfl rfl
theorem ge_m {C : Addr} {sp : Sp} {k j : Nat} (h : Mt ⟨X.prog, X.w, X.K, X.mg, X.base⟩ k C "__ge__" sp) (hr : Room j X.A) (hk : k ≤ j) : OpR X (compareOp .GtE) (rOwn2 C sp) := cmp2_m h hr hk rfl rfl
end
end Ly

namespace Ly
open PySem PySem.Spec PyProof.Rows L2
section
open PySem.W PySem.Calls
variable {X : Cx} {C f : Addr} {fd : FuncData} {ps : List Str} {sp : Sp} {k j : Nat}
/-- own == a value of another, built-in, kind -/
def rEqOwnT (K : PySem.W.Frag) (C : Addr) (sp : Sp) (g : Bool → Bool) : R2 := fun x y H Q => ∃ a dx fs T, x = .ref a ∧ H a = some (.ins C dx fs) ∧ TyX K H y (.type T) ∧ subIn K (.type T) (.ref C) = some false ∧ sp [x, y] H (bq g Q) E0
theorem op_eq_ownT (F : FnOk X.prog X.w X.K X.mg X.base CX0 k f fd ps sp) (hr : Room k X.A) (hb : Binds X.K fd ps []) (hs : findIn X.K (.ref C) "__eq__" = some (some (.ref f))) (hf : isFn X.K (.ref f) = true) : OpR X (compareOp .Eq) (rEqOwnT X.K C sp id) := by
  intro pins s σ H x y v u Q I rx ry q
  obtain ⟨a, dx, fs, T, rfl, ha, ty, hn, q⟩ := q
  cases rx
  obtain ⟨mA, J, _⟩ := ins_get I.hok ha
  obtain ⟨od, J, _⟩ := J.look
  obtain ⟨m, hF⟩ := I.fr
  obtain ⟨P, kx, hP, _⟩ := kit_of I ry ty
  refine PySem.W.cmp_K (op := .Eq) (tb := .type T) hr.units0 hF I.ok.mod.kin J (kx.ty _ _ I.kIn hP) ?_ hs hf (cmpback (wpAny_mono (run_fn (us := [.ref a, u]) (vs := [.ref a, y]) F hr hb .nil pass0 I (.cons rfl (.cons ry .nil)) q) (fun v s' hv => ?_) fun _ _ e => e))
  · unfold notFirst
    rw [hn]
    simp
  · obtain ⟨v0, H', I', rv, b, rfl, qv⟩ := hv
    exact ⟨.bl b, H', I', rv, qv⟩
theorem op_ne_ownT (F : FnOk X.prog X.w X.K X.mg X.base CX0 k f fd ps sp) (hr : Room (k + 3) X.A) (hb : Binds X.K fd ps []) (hs : findIn X.K (.ref C) "__eq__" = some (some (.ref f))) (hf : isFn X.K (.ref f) = true)
    (hn : findIn X.K (.ref C) "__ne__" = some (some (.builtin "object.__ne__"))) (hob : subIn X.K (.ref C) (.type "object") = some true) : OpR X (compareOp .NotEq) (rEqOwnT X.K C sp not) := by
  intro pins s σ H x y v u Q I rx ry q
  obtain ⟨a, dx, fs, T, rfl, ha, ty, hi, q⟩ := q
  cases rx
  obtain ⟨mA, J, _⟩ := ins_get I.hok ha
  obtain ⟨od, J, _⟩ := J.look
  have KX := I.kIn
  obtain ⟨P, kx, hP, _⟩ := kit_of I ry ty
  have one : wpAny (model X.prog X.w) X.A (tryCompare (.ref a) (Str.ofString "__ne__") u) (fun r s' => ∃ v, r = some v ∧ EP X pins σ Q v s') X.xe s := by
    unfold tryCompare
    refine wpAny_bind (ifBound_bi KX J hn ne_slot.bind (wpAny_mono (ne_run (E' := X.xe) F (hr.mono (Nat.le_succ _)) rfl hb hs hf hob I ha ry q) (fun v s' hv => ?_) fun _ _ e => e))
    obtain ⟨h1, h2⟩ := hv
    cases v <;> first | exact (h1 rfl).elim | exact wpAny_pure ⟨_, rfl, h2⟩
  show wpAny _ _ (richCompare .NotEq (.ref a) u) _ _ _
  unfold richCompare
  simp only [oneThing_ref]
  refine wpAny_holding (wpAny_bind (wpAny_cRoomFor hr.units0 ?_))
  refine wpAny_bind (J.type.here (wpAny_bind ((kx.ty (model X.prog X.w) _ I.kIn hP).here ?_)))
  rw [if_pos (by simp)]
  refine wpAny_bind ((looks_subIn KX hi).here ?_)
  simp only [Bool.false_eq_true, if_false]
  refine wpAny_bind (wpAny_mono one (fun r s' z => ?_) fun _ _ e => e)
  obtain ⟨v, rfl, hq⟩ := z
  exact wpAny_pure hq
theorem eqT_m {sp : Sp} (h : Mt ⟨X.prog, X.w, X.K, X.mg, X.base⟩ k C "__eq__" sp) (hr : Room j X.A) (hk : k ≤ j) : OpR X (compareOp .Eq) (rEqOwnT X.K C sp id) := by
  obtain ⟨f, fd, ps, hm, F, b⟩ := h.ex
  exact op_eq_ownT F (hr.mono hk) b hm.at_ hm.fn
theorem neT_m {sp : Sp} {x : Str} (h : Mt ⟨X.prog, X.w, X.K, X.mg, X.base⟩ k C "__eq__" sp) (o : OwnC X.K X.mg x C) (ne : findIn X.K (.ref C) "__ne__" = some (some (.builtin "object.__ne__"))) (hr : Room j X.A) (hk : k + 3 ≤ j) : OpR X (compareOp .NotEq) (rEqOwnT X.K C sp not) := by
  obtain ⟨f, fd, ps, hm, F, b⟩ := h.ex
  exact op_ne_ownT F (hr.mono hk) b hm.at_ hm.fn ne o.sO
end
end Ly

namespace Ly
open PySem PySem.Spec PyProof.Rows L2
/-! ### sorted: a list of tuples of three texts -/
abbrev T3 := Str × Str × Str
theorem ltS_irr (x : Str) : ltS x x = false := decide_eq_false (List.lt_irrefl _)
theorem ltS_as (x y : Str) (h : ltS x y = true) : ltS y x = false := decide_eq_false (List.lt_asymm (of_decide_eq_true h))
theorem ltS_tr (x y z : Str) (h : ltS x y = true) (k : ltS y z = true) : ltS x z = true := decide_eq_true (List.lt_trans (of_decide_eq_true h) (of_decide_eq_true k))
theorem ltS_tri (x y : Str) (n : x ≠ y) (h : ltS y x = false) : ltS x y = true := by
  unfold ltS at *
  by_cases k : x.cps.toList < y.cps.toList
  · exact decide_eq_true k
  · have h1 := of_decide_eq_false h
    exact absurd (str_ext (List.le_antisymm (show x.cps.toList ≤ y.cps.toList from h1) (show y.cps.toList ≤ x.cps.toList from k))) n
theorem swo_str : SrtO.Swo ltS := ⟨ltS_as, fun x y z h k => by
  by_cases e1 : x = y
  · subst e1
    exact k
  · by_cases e2 : y = z
    · subst e2
      exact h
    · exact ltS_as _ _ (ltS_tr _ _ _ (ltS_tri _ _ e1 h) (ltS_tri _ _ e2 k))⟩
def lexB {β : Type} (l2 : β → β → Bool) (p q : Str × β) : Bool := if p.1 = q.1 then l2 p.2 q.2 else ltS p.1 q.1
theorem swo_lexB {β : Type} {l2 : β → β → Bool} (h2 : SrtO.Swo l2) : SrtO.Swo (lexB l2) := by
  refine ⟨fun p q h => ?_, fun x y z h k => ?_⟩
  · unfold lexB at *
    by_cases e : p.1 = q.1
    · rw [if_pos e] at h
      rw [if_pos e.symm]
      exact h2.asym _ _ h
    · rw [if_neg e] at h
      rw [if_neg (fun z => e z.symm)]
      exact ltS_as _ _ h
  · unfold lexB at *
    by_cases e : z.1 = x.1
    · rw [if_pos e]
      by_cases e1 : y.1 = x.1
      · rw [if_pos e1] at h
        rw [if_pos (e.trans e1.symm)] at k
        exact h2.tr _ _ _ h k
      · rw [if_neg e1] at h
        rw [if_neg (fun w => e1 (w.symm.trans e)), e] at k
        have := ltS_tri _ _ (fun w => e1 w.symm) h
        rw [this] at k
        cases k
    · rw [if_neg e]
      by_cases e1 : y.1 = x.1
      · rw [if_neg (fun w => e (w.trans e1)), e1] at k
        exact k
      · rw [if_neg e1] at h
        have a1 := ltS_tri _ _ (fun w => e1 w.symm) h
        by_cases e2 : z.1 = y.1
        · rw [e2]
          exact ltS_as _ _ a1
        · rw [if_neg e2] at k
          exact ltS_as _ _ (ltS_tr _ _ _ a1 (ltS_tri _ _ (fun w => e2 w.symm) k))
def lt3 : T3 → T3 → Bool := lexB (lexB ltS)
theorem swo_3 : SrtO.Swo lt3 := swo_lexB (swo_lexB swo_str)
theorem swo_by {α β : Type} {lt : β → β → Bool} (h : SrtO.Swo lt) (k : α → β) : SrtO.Swo fun x y => lt (k x) (k y) := ⟨fun x y e => h.asym _ _ e, fun x y z e f => h.tr _ _ _ e f⟩
def IsTrip (h : Heap) (v : Value) (k : T3) : Prop := ∃ a o t1 t2 t3 n, v = .ref a ∧ h.get? a = some o ∧ o.cls = .type "tuple" ∧ o.data = .seq #[.str k.1 t1, .str k.2.1 t2, .str k.2.2 t3] n
theorem one_str {prog : Program} {w : World} {A : Around} {E : Value → Shared → Prop} {s : Shared} {Q : Bool → Shared → Prop} (c : Bool) {p q : Str} {t u : Tok} (h : Q (ltS p q) s) : wpAny (model prog w) A (oneLt' c (.str p t) (.str q u)) Q E s := by
  cases c with
  | true => exact oneLt_str h
  | false => exact PySem.W.kat_one _ _ (lt_str h)
theorem trip_cmp {prog : Program} {w : World} {A : Around} {s : Shared} {vs : List Value} {k : Value → T3} (hp : ∀ v ∈ vs, IsTrip s.heap v (k v)) : SrtO.Cmp prog w A s (tuples' true) (fun p => p.1 ∈ vs) (SrtO.lt2 fun v u => lt3 (k v) (k u)) := by
  intro p q hm hm'
  obtain ⟨a, o, t1, t2, t3, n, e, ho, hc, hd⟩ := hp p.1 hm
  obtain ⟨a', o', t1', t2', t3', n', e', ho', hc', hd'⟩ := hp q.1 hm'
  have goal : lt3 (k p.1) (k q.1) = lt3 (k p.1) (k q.1) := rfl
  show wpAny (model prog w) A (keyLt' (tuples' true) p.1 q.1) (fun r s' => s' = s ∧ r = lt3 (k p.1) (k q.1)) (fun _ _ => False) s
  generalize k p.1 = x at *
  generalize k q.1 = y at *
  rw [e, e']
  refine PySem.W.kat_lt ho hd ho' hd' ?_
  show PySem.W.KatLex prog w A true (decide (3 < 3)) _ [(.str x.1 t1, .str y.1 t1'), (.str x.2.1 t2, .str y.2.1 t2'), (.str x.2.2 t3, .str y.2.2 t3')] 0 s
  have eq_of : ∀ {i j : Str}, (i == j) = true → i = j := fun h => by simpa using h
  have ne_of : ∀ {i j : Str}, (i == j) = false → ¬ i = j := fun h => by simpa using h
  unfold lt3 lexB
  refine PySem.W.kat_cons (SeqAt.EqAt.str_str _ _ _ _ _ _ _ _ (PySem.W.kat_go (fun e1 => PySem.W.kat_yes ?_) fun e1 => PySem.W.kat_no ?_))
  · rw [if_pos (eq_of e1)]
    refine PySem.W.kat_cons (SeqAt.EqAt.str_str _ _ _ _ _ _ _ _ (PySem.W.kat_go (fun e2 => PySem.W.kat_yes ?_) fun e2 => PySem.W.kat_no ?_))
    · rw [if_pos (eq_of e2)]
      refine PySem.W.kat_cons (SeqAt.EqAt.str_str _ _ _ _ _ _ _ _ (PySem.W.kat_go (fun e3 => PySem.W.kat_yes ?_) fun e3 => PySem.W.kat_no ?_))
      · refine PySem.W.kat_nil ⟨rfl, ?_⟩
        rw [eq_of e3, ltS_irr]
        rfl
      · exact one_str _ ⟨rfl, rfl⟩
    · rw [if_neg (ne_of e2)]
      exact one_str _ ⟨rfl, rfl⟩
  · rw [if_neg (ne_of e1)]
    exact one_str _ ⟨rfl, rfl⟩
theorem trips_first {h : Heap} {k : Value → T3} : ∀ {vs : List Value}, (∀ v ∈ vs, IsTrip h v (k v)) → ∃ fs, PySem.W.KatTups h vs fs ∧ fs.length = vs.length ∧ ∀ f ∈ fs, ∃ x t, f = Value.str x t
  | [], _ => ⟨[], trivial, rfl, fun f z => by cases z⟩
  | v :: vs, hp => by
    obtain ⟨fs, h1, h2, h3⟩ := trips_first (vs := vs) fun u hu => hp u (List.mem_cons_of_mem _ hu)
    obtain ⟨a, o, t1, t2, t3, n, e, ho, hc, hd⟩ := hp v (List.mem_cons_self ..)
    refine ⟨.str (k v).1 t1 :: fs, ⟨⟨a, o, _, n, e, ho, hc, hd, rfl⟩, h1⟩, by simp [h2], fun f hf => ?_⟩
    rcases List.mem_cons.mp hf with rfl | hf
    · exact ⟨_, _, rfl⟩
    · exact h3 f hf
theorem trips_sortable {prog : Program} {w : World} {A : Around} {s : Shared} {a : Addr} {vs : List Value} {k : Value → T3} (h0 : 0 < vs.length) (hp : ∀ v ∈ vs, IsTrip s.heap v (k v)) (ha : ∀ o, s.heap.get? a = some o → o.cls ≠ .type "tuple") :
    SrtO.SortableO prog w A s a vs fun v u => lt3 (k v) (k u) := by
  intro h' keep
  have hp' : ∀ v ∈ vs, IsTrip h' v (k v) := fun v hv => by
    obtain ⟨b, o, t1, t2, t3, n, e, ho, hc, hd⟩ := hp v hv
    exact ⟨b, o, t1, t2, t3, n, e, keep b o (fun z => ha o (by rw [← z]; exact ho) hc) ho, hc, hd⟩
  obtain ⟨fs, h1, h2, h3⟩ := trips_first hp'
  refine ⟨tuples' true, fun Q E hq => ?_, trip_cmp hp'⟩
  refine PySem.W.kat_kind (T := .type "str") h1 (by omega) (fun f hf => ?_) (beq_self_eq_true _) ?_
  · obtain ⟨x, t, rfl⟩ := h3 f hf
    exact PySem.W.Looks.of_pure rfl
  · have e : (Value.type "str" != Value.type "tuple") = true := by decide +kernel
    rw [e]
    exact hq
theorem sorted_trips {prog : Program} {w : World} {A : Around} {E : Value → Shared → Prop} {s : Shared} {l : Addr} {vs : List Value} {k : Value → T3} {Q : Value → Shared → Prop} (hl : s.heap.IsList l vs.toArray) (hz : vs.length ≤ sizeLine) (hp : ∀ v ∈ vs, IsTrip s.heap v (k v))
    (h : ∀ (h' : Heap) (d : Addr) (out : List Value), SrtO.Srtd (fun v u => lt3 (k v) (k u)) out → SrtO.Stb (fun v u => lt3 (k v) (k u)) out vs → (∀ b o, s.heap.get? b = some o → h'.get? b = some o) → s.heap.objs.size ≤ d → (∃ n, h'.get? d = some (seqObj "list" out.toArray n)) → Q (.ref d) { s with heap := h' }) :
    wpAny (model prog w) A (call (.builtin "sorted") [.ref l]) Q E s := by
  refine SrtO.sorted_ord (swo_by swo_3 k) hl hz (fun h2 h₁ a ha kk => ?_) fun out hs hb => h _ (s.heap.objs.size + 1) out hs hb (fun b o e => sortedAll_old e) (Nat.le_succ _) (sortedAll_at s.heap vs out.toArray)
  refine trips_sortable (by omega) (fun v hm => ?_) fun o e c => ?_
  · obtain ⟨b, o, t1, t2, t3, n, e, ho, hc, hd⟩ := hp v hm
    exact ⟨b, o, t1, t2, t3, n, e, (kk b o ho).2, hc, hd⟩
  · have e2 : some (seqObj "list" vs.toArray 0) = some o := ha.symm.trans e
    cases e2
    exact absurd (Value.type.inj c) (by decide)
/-- sorted(xs), the items tuples of three texts -/
def rSortedT3 (K : PySem.W.Frag) : List V → Hp → VK → Prop := fun vs H Q => ∃ (a : Addr) (xs : List V) (k : V → T3), vs = [.ref a] ∧ SqL K H a xs ∧ (∀ x ∈ xs, ∃ t, x = .ref t ∧ H t = some (.tup [.str (k x).1, .str (k x).2.1, .str (k x).2.2])) ∧
  ∀ ys p, SrtO.Srtd (fun x y => lt3 (k x) (k y)) ys → SrtO.Stb (fun x y => lt3 (k x) (k y)) ys xs → H p = none → Q (.ref p) (upd H p (.lst ys))
theorem cr_sortedT3 {X : Cx} : CallR X (.builtin "sorted") (rSortedT3 X.K) := by
  intro pins s σ H vs us Q I r q
  obtain ⟨a, xs, k, rfl, hs, hx, q⟩ := q
  obtain ⟨its, rv, hl, hz⟩ := I.list hs
  obtain ⟨u, rfl, ru⟩ := vals1 r
  cases ru
  obtain ⟨e1, e2⟩ := refs_back rv fun x m => by
    obtain ⟨t, e, _⟩ := hx x m
    exact ⟨t, e⟩
  refine sorted_trips (k := fun v => k (backV v)) hl.isList (by rw [← rv.length]; exact hz) (fun v hv => ?_) fun h' d out h1 h2 kp hd hn => ?_
  · obtain ⟨t, rfl⟩ := e2 v hv
    have hm : V.ref t ∈ xs := by
      rw [e1]
      exact List.mem_map.mpr ⟨.ref t, hv, rfl⟩
    obtain ⟨t', e, ht⟩ := hx _ hm
    cases e
    obtain ⟨us3, r3, ⟨o, ho, hc, n, hd⟩, _⟩ := I.tuple (SqT.of ht)
    cases r3 with
    | cons a1 r3 =>
      cases r3 with
      | cons a2 r3 =>
        cases r3 with
        | cons a3 r3 =>
          cases r3
          obtain ⟨t1, rfl⟩ := a1
          obtain ⟨t2, rfl⟩ := a2
          obtain ⟨t3, rfl⟩ := a3
          exact ⟨t, o, t1, t2, t3, n, rfl, ho, hc, hd⟩
  · have h3 : ∀ u ∈ out, ∃ a, u = Value.ref a := fun u hu => e2 u (h2.perm.mem_iff.mp hu)
    obtain ⟨n, hn⟩ := hn
    have hb := SrtO.Stb.map (swo_by swo_3 k) backV h2
    rw [← e1] at hb
    refine ⟨.ref d, _, Inv.laid I kp hd (o := .lst (out.map backV)) ⟨by rw [hb.len]; exact hz, out, n, vals_back h3, hn⟩, rfl, q _ d (SrtO.srtd_map h1) hb (HOk.fresh I.hok hd)⟩
end Ly

namespace Ly
open PySem PySem.Spec PyProof.Rows L2
/-! ### repr of a text, of a list of bools -/
def rReprS : List V → Hp → VK → Prop := fun xs H Q => ∃ x : Str, xs = [.str x] ∧ (reprText x).length ≤ sizeLine ∧ Q (.str (reprText x)) H
theorem call_reprS {X : Cx} : CallR X (.builtin "repr") rReprS := by
  intro pins s σ H xs us Q I r q
  obtain ⟨x, rfl, ln, q⟩ := q
  obtain ⟨u, rfl, ru⟩ := vals1 r
  obtain ⟨t, rfl⟩ := ru
  refine PySem.P.repr_of_str ?_ ln
  exact ⟨.str (reprText x), H, I.turnedL (ch := []) (fun b o _ e => e) (fun b z => by cases z), ⟨_, rfl⟩, q⟩
theorem call_or {X : Cx} {f : Value} {r r' : List V → Hp → VK → Prop} (h : CallR X f r) (h' : CallR X f r') : CallR X f (fun xs H Q => r xs H Q ∨ r' xs H Q) := by
  intro pins s σ H xs us Q I rv q
  rcases q with q | q
  · exact h pins s σ H xs us Q I rv q
  · exact h' pins s σ H xs us Q I rv q
theorem i_reprS {H : Hp} {Q : VK} {x : Str} (h : (reprText x).length ≤ 100000) (q : Q (.str (reprText x)) H) : rReprS [.str x] H Q := ⟨x, rfl, sl_of h, q⟩
theorem bools_show (bs : List Bool) : PyData.showableAll (bs.map PyData.bool) = true := by
  induction bs with
  | nil => rfl
  | cons b bs ih => simp [PyData.showableAll, PyData.showable, ih]
theorem bools_dict (bs : List Bool) : PyData.hasDictAll (bs.map PyData.bool) = false := by
  induction bs with
  | nil => rfl
  | cons b bs ih => simp [PyData.hasDictAll, PyData.hasDict, ih]
theorem bools_deep (bs : List Bool) : PyData.depthAll (bs.map PyData.bool) = 0 := by
  induction bs with
  | nil => rfl
  | cons b bs ih => simp [PyData.depthAll, PyData.depth, ih]
theorem bools_len (bs : List Bool) : ((PyData.shownAll (bs.map PyData.bool)).map fun x => x.length).sum ≤ 5 * bs.length := by
  induction bs with
  | nil => exact Nat.le_refl _
  | cons b bs ih =>
    have h : (PyData.bool b).shown.length ≤ 5 := by
      cases b <;> decide +kernel
    rw [List.map_cons, PyData.shownAll, List.map_cons, List.sum_cons, List.length_cons]
    omega
theorem shownAll_len (ds : List PyData) : (PyData.shownAll ds).length = ds.length := by
  induction ds with
  | nil => rfl
  | cons d ds ih => simp [PyData.shownAll, ih]
theorem list_len (ds : List PyData) : (PyData.list ds).shown.length ≤ ((PyData.shownAll ds).map fun x => x.length).sum + 2 * ds.length + 2 := by
  have l1 : ("[" : Str).length = 1 := by decide +kernel
  have l2 : ("]" : Str).length = 1 := by decide +kernel
  have l3 : (", " : Str).length = 2 := by decide +kernel
  rw [PyData.shown_list, app_len, app_len, l1, l2]
  cases ds with
  | nil =>
    have : ((", " : Str).join (PyData.shownAll [])).length = 0 := by decide +kernel
    omega
  | cons d ds =>
    have e := PyProof.Rows.len_join_cons (", " : Str) d.shown (PyData.shownAll ds)
    rw [show PyData.shownAll (d :: ds) = d.shown :: PyData.shownAll ds from rfl, e, l3, shownAll_len, List.length_cons]
    omega
theorem i_reprB {K : PySem.W.Frag} {H : Hp} {Q : VK} {a : Addr} {bs : List Bool} (h : H a = some (.lst (bs.map V.bl))) (z : bs.length ≤ 1000) (q : Q (.str (dB bs).shown) H) : rReprD K [.ref a] H Q := by
  have g : Dp K H (.ref a) (dB bs) := by
    refine .lst (SqL.of h) ?_
    clear h q z
    induction bs with
    | nil => exact .nil
    | cons n ns ih => exact .cons (.bl n) ih
  refine ⟨a, dB bs, rfl, g, bools_show bs, bools_dict bs, ?_, ?_, q⟩
  · show PyData.depthAll (bs.map PyData.bool) + 1 ≤ 40
    rw [bools_deep]
    decide
  · have e1 := list_len (bs.map PyData.bool)
    have e2 := bools_len bs
    rw [List.length_map] at e1
    refine sl_of ?_
    show (PyData.list (bs.map PyData.bool)).shown.length ≤ _
    omega
section
variable {K : PySem.W.Frag} {H : Hp} {Q : VK} {a b : Addr} {x1 x2 x3 y1 y2 y3 : Str}
/-- two tuples of three texts, compared -/
theorem i_TS3 {r : Str → Str → Bool} {z : Nat → Nat → Bool} (h1 : H a = some (.tup [.str x1, .str x2, .str x3])) (h2 : H b = some (.tup [.str y1, .str y2, .str y3])) (q : Q (.bl (lexS r z [x1, x2, x3] [y1, y2, y3])) H) : rTS K r z (.ref a) (.ref b) H Q := ⟨a, b, [x1, x2, x3], [y1, y2, y3], rfl, rfl, SqT.of h1, SqT.of h2, q⟩
end
end Ly

namespace Ly
open PySem PySem.Spec PyProof.Rows L2
theorem i_itB {b : Bool} {A B : Prop} (h1 : b = true → A) (h2 : b = false → B) : if b = true then A else B := by
  cases b with
  | true => exact iteT (h1 rfl)
  | false => exact iteF (h2 rfl)
theorem a_cps : ("a" : Str).cps.toList = [97] := by decide +kernel
theorem z_cps : ("z" : Str).cps.toList = [122] := by decide +kernel
theorem lt_one {a b : Nat} : decide (([a] : List Nat) < [b]) = decide (a < b) := by
  have : ([a] : List Nat) < [b] ↔ a < b := by
    rw [List.cons_lt_cons_iff]
    constructor
    · rintro (h | ⟨_, h⟩)
      · exact h
      · cases h
    · exact fun h => .inl h
  by_cases h : a < b
  · rw [decide_eq_true (this.mpr h), decide_eq_true h]
  · rw [decide_eq_false (fun z => h (this.mp z)), decide_eq_false h]
section
variable {σ : L2.St} {H : Hp} {Q : VK} {ta tb tc : TE} {r r' : R2} {x y : V}
def rChain (r' : R2) (tc : TE) (σ : L2.St) (y : V) (Q : VK) : VK := fun v H3 => ∃ k, v = .bl k ∧ if k = true then tc σ H3 fun z H4 => r' y z H4 Q else Q (.bl false) H3
theorem i_chain (q : ta σ H fun x H1 => tb σ H1 fun y H2 => r x y H2 (rChain r' tc σ y Q)) : tChain r r' ta tb tc σ H Q := q
theorem i_rchain {b : Bool} (h : b = true → tc σ H fun z H4 => r' y z H4 Q) (g : b = false → Q (.bl false) H) : rChain r' tc σ y Q (.bl b) H := ⟨b, rfl, i_itB h g⟩
theorem i_leI {i j : Int} {r : R2} (q : Q (.bl (decide (i ≤ j))) H) : rOr (rI0 fun i j => .bl (decide (i ≤ j))) r (.int i) (.int j) H Q := .inl ⟨i, j, rfl, rfl, q⟩
end
def rLeS : R2 := fun x y H Q => ∃ i j, x = .str i ∧ y = .str j ∧ Q (.bl (!decide (j.cps.toList < i.cps.toList))) H
theorem op_leS {X : Cx} : OpR X (compareOp .LtE) rLeS := op_le_str
theorem i_leS {x y : Str} {H : Hp} {Q : VK} {r : R2} (q : Q (.bl (!decide (y.cps.toList < x.cps.toList))) H) : rOr r rLeS (.str x) (.str y) H Q := .inr ⟨x, y, rfl, rfl, q⟩
end Ly

namespace Ly
open PySem PySem.Spec PyProof.Rows L2
/-! ### data: lists of texts, tuples of three texts, lists of such -/
def dS (xs : List Str) : PyData := .list (xs.map PyData.str)
def dT (k : T3) : PyData := .tuple [.str k.1, .str k.2.1, .str k.2.2]
def dTs (ks : List T3) : PyData := .list (ks.map dT)
theorem strs_lay {xs : List Str} (h : ∀ x ∈ xs, PyData.strOk x = true) : PyData.canLayAll0 (xs.map PyData.str) = true := by
  induction xs with
  | nil => rfl
  | cons p ps ih => simp [PyData.canLayAll0, PyData.canLay0, ih fun y hy => h y (List.mem_cons_of_mem _ hy), h p (List.mem_cons_self ..)]
theorem strs_dep (xs : List Str) : PyData.depthAll (xs.map PyData.str) = 0 := by
  induction xs with
  | nil => rfl
  | cons p ps ih => simp [PyData.depthAll, PyData.depth, ih]
theorem dS_shaped {xs : List Str} (h : ∀ x ∈ xs, PyData.strOk x = true) : SeqAt.shaped (dS xs) = true := by
  unfold SeqAt.shaped
  simp [dS, PyData.canLay0, PyData.depth, strs_lay h, strs_dep]
/-- three texts that can be laid -/
structure Ok3 (k : T3) : Prop where
  a : PyData.strOk k.1 = true
  b : PyData.strOk k.2.1 = true
  c : PyData.strOk k.2.2 = true
theorem dT_lay {k : T3} (h : Ok3 k) : (dT k).canLay0 = true := by simp [dT, PyData.canLay0, PyData.canLayAll0, h.a, h.b, h.c]
theorem dT_dep (k : T3) : (dT k).depth = 1 := by simp [dT, PyData.depth, PyData.depthAll]
theorem dT_shaped {k : T3} (h : Ok3 k) : SeqAt.shaped (dT k) = true := by
  unfold SeqAt.shaped
  rw [dT_lay h, dT_dep]
  rfl
theorem dTs_shaped {ks : List T3} (h : ∀ k ∈ ks, Ok3 k) : SeqAt.shaped (dTs ks) = true := by
  have e : PyData.canLayAll0 (ks.map dT) = true := by
    induction ks with
    | nil => rfl
    | cons p ps ih => simp [PyData.canLayAll0, dT_lay (h p (List.mem_cons_self ..)), ih fun y hy => h y (List.mem_cons_of_mem _ hy)]
  have d : PyData.depthAll (ks.map dT) ≤ 1 := by
    clear e h
    induction ks with
    | nil => simp [PyData.depthAll]
    | cons p ps ih =>
      simp [PyData.depthAll, dT_dep]
      omega
  unfold SeqAt.shaped
  simp [dTs, PyData.canLay0, PyData.depth, e]
  omega
theorem strs_dp {K : PySem.W.Frag} {H : Hp} : ∀ xs : List Str, DpAll K H (xs.map V.str) (xs.map PyData.str)
  | [] => .nil
  | x :: xs => .cons (.str x) (strs_dp xs)
theorem dS_dp {K : PySem.W.Frag} {H : Hp} {r : Addr} {xs : List Str} (h : H r = some (.lst (xs.map V.str))) : Dp K H (.ref r) (dS xs) := .lst (SqL.of h) (strs_dp xs)
/-- a tuple of three texts -/
def TripAt (H : Hp) (r : Addr) (k : T3) : Prop := H r = some (.tup [.str k.1, .str k.2.1, .str k.2.2])
theorem TripAt.dp {K : PySem.W.Frag} {H : Hp} {r : Addr} {k : T3} (h : TripAt H r k) : Dp K H (.ref r) (dT k) := .tup (SqT.of h) (.cons (.str _) (.cons (.str _) (.cons (.str _) .nil)))
theorem TripAt.same {H H' : Hp} {r : Addr} {k : T3} (h : TripAt H r k) (s : Same H H') : TripAt H' r k := s _ _ h
theorem TripAt.nl {H H' : Hp} {r : Addr} {k : T3} (h : TripAt H r k) (s : NL H H') : TripAt H' r k := s _ _ (fun a z => by cases z) h
/-- a list of tuples of three texts -/
def Trips (H : Hp) (L : List (Addr × T3)) : Prop := ∀ x ∈ L, TripAt H x.1 x.2
def refs {α : Type} (L : List (Addr × α)) : List V := L.map fun x => V.ref x.1
def keys {α : Type} (L : List (Addr × α)) : List α := L.map fun x => x.2
theorem Trips.same {H H' : Hp} {L : List (Addr × T3)} (h : Trips H L) (s : Same H H') : Trips H' L := fun x hx => (h x hx).same s
theorem Trips.nl {H H' : Hp} {L : List (Addr × T3)} (h : Trips H L) (s : NL H H') : Trips H' L := fun x hx => (h x hx).nl s
theorem Trips.dp {K : PySem.W.Frag} {H : Hp} : ∀ {L : List (Addr × T3)}, Trips H L → DpAll K H (refs L) ((keys L).map dT)
  | [], _ => .nil
  | x :: L, h => .cons (h x (List.mem_cons_self ..)).dp (Trips.dp fun y hy => h y (List.mem_cons_of_mem _ hy))
theorem dTs_dp {K : PySem.W.Frag} {H : Hp} {r : Addr} {L : List (Addr × T3)} (e : H r = some (.lst (refs L))) (h : Trips H L) : Dp K H (.ref r) (dTs (keys L)) := .lst (SqL.of e) h.dp
section
variable {K : PySem.W.Frag} {H : Hp} {Q : VK} {r r' : Addr} {xs ys : List Str} {k l : T3}
theorem i_eqSs (h1 : H r = some (.lst (xs.map V.str))) (h2 : H r' = some (.lst (ys.map V.str))) (e : xs = ys) (o : ∀ x ∈ xs, PyData.strOk x = true) (q : Q (.bl true) H) : rEqU K (.ref r) (.ref r') H Q := i_eqD (dS_dp h1) (by rw [e]; exact dS_dp h2) (dS_shaped o) q
theorem i_neSs (h1 : H r = some (.lst (xs.map V.str))) (h2 : H r' = some (.lst (ys.map V.str))) (e : xs = ys) (o : ∀ x ∈ xs, PyData.strOk x = true) (q : Q (.bl false) H) : rNeU K (.ref r) (.ref r') H Q := i_neD (dS_dp h1) (by rw [e]; exact dS_dp h2) (dS_shaped o) q
theorem beq_dec (x y : Str) : (x == y) = decide (x = y) := by
  by_cases h : x = y
  · subst h
    simp
  · rw [decide_eq_false h]
    exact beq_eq_false_iff_ne.mpr h
theorem dT_eqv (k l : T3) : (dT k).eqv (dT l) = decide (k = l) := by
  obtain ⟨a, b, c⟩ := k
  obtain ⟨d, e, f⟩ := l
  have g : (dT (a, b, c)).eqv (dT (d, e, f)) = ((a == d) && ((b == e) && ((c == f) && true))) := by
    simp [dT, PyData.eqv, PyData.eqvAll]
  rw [g, beq_dec, beq_dec, beq_dec, Bool.and_true, ← Bool.decide_and, ← Bool.decide_and]
  apply decide_eq_decide.mpr
  simp
/-- two tuples of three texts -/
theorem i_eqT3 (h1 : TripAt H r k) (h2 : TripAt H r' l) (o : Ok3 k) (o2 : Ok3 l) (q : Q (.bl (decide (k = l))) H) : rEqU K (.ref r) (.ref r') H Q := .inr ⟨_, _, h1.dp, h2.dp, dT_shaped o, dT_shaped o2, by rw [dT_eqv]; exact q⟩
theorem i_neT3 (h1 : TripAt H r k) (h2 : TripAt H r' l) (o : Ok3 k) (o2 : Ok3 l) (q : Q (.bl (!decide (k = l))) H) : rNeU K (.ref r) (.ref r') H Q := .inr ⟨_, _, h1.dp, h2.dp, dT_shaped o, dT_shaped o2, by rw [dT_eqv]; exact q⟩
end
end Ly

namespace Ly
open PySem PySem.Spec PyProof.Rows L2
/-! ### for over a tuple, a list, enumerate(list): staged -/
def rForJ (J : L2.It) (g : TG) (tb : TS) (D : Ends) (σ : L2.St) (H1 : Hp) : Prop := ∃ W : Nat → Nat → L2.St → Hp → Prop, (∃ m, W 0 m σ H1) ∧ ∀ i m σ H, W i m σ H →
  (J.stop i H ∧ D.nx σ H) ∨ (J.go i H ∧ ∃ N : L2.St → Hp → Prop, (∀ σ' H', N σ' H' → ∃ m', m' < m ∧ W (i + 1) m' σ' H') ∧ ∀ x H', J.yld i H x H' → g x σ H' fun σ2 H2 => tb { D with nx := N, ct := N, bk := D.nx } σ2 H2)
section
variable {K : PySem.W.Frag} {σ : L2.St} {H : Hp} {D : Ends} {tb : TS} {g : TG} {te : TE} {ta : TA} {a : Addr} {xs : List V}
def rForT (K : PySem.W.Frag) (g : TG) (tb : TS) (D : Ends) (σ : L2.St) : V → Hp → Prop := fun x H1 => ∃ a, x = .ref a ∧ (∃ xs, SqT K H1 a xs) ∧ rForJ (Itt K a) g tb D σ H1
theorem i_forT (q : te σ H fun x H1 => rForT K g tb D σ x H1) : tFor (iTup K te) g tb D σ H := q
theorem i_rforT (hs : SqT K H a xs) (Pv : Nat → L2.St → Hp → Prop) (h0 : Pv 0 σ H) (hl : ∀ i σ H, i ≤ xs.length → Pv i σ H → SqT K H a xs)
    (hs' : ∀ i x σ H, xs[i]? = some x → Pv i σ H → g x σ H fun σ2 H2 => tb { D with nx := Pv (i + 1), ct := Pv (i + 1), bk := D.nx } σ2 H2) (hd : ∀ σ H, Pv xs.length σ H → D.nx σ H) : rForT K g tb D σ (.ref a) H :=
  ⟨a, rfl, ⟨xs, hs⟩, for_tup Pv h0 hl hs' hd⟩
def rForL (K : PySem.W.Frag) (g : TG) (tb : TS) (D : Ends) (σ : L2.St) : V → Hp → Prop := fun x H1 => ∃ a, x = .ref a ∧ (∃ xs, SqL K H1 a xs) ∧ rForJ (Itl K a) g tb D σ H1
theorem i_forL (q : te σ H fun x H1 => rForL K g tb D σ x H1) : tFor (iList K te) g tb D σ H := q
theorem i_rforL (hs : SqL K H a xs) (Pv : Nat → L2.St → Hp → Prop) (h0 : Pv 0 σ H) (hl : ∀ i σ H, i ≤ xs.length → Pv i σ H → SqL K H a xs)
    (hs' : ∀ i x σ H, xs[i]? = some x → Pv i σ H → g x σ H fun σ2 H2 => tb { D with nx := Pv (i + 1), ct := Pv (i + 1), bk := D.nx } σ2 H2) (hd : ∀ σ H, Pv xs.length σ H → D.nx σ H) : rForL K g tb D σ (.ref a) H :=
  ⟨a, rfl, ⟨xs, hs⟩, for_list Pv h0 hl hs' hd⟩
def rForE (K : PySem.W.Frag) (g : TG) (tb : TS) (D : Ends) (σ : L2.St) : List V → Hp → Prop := fun vs H1 => ∃ a xs, vs = [.ref a] ∧ SqL K H1 a xs ∧ rForJ (Ite K a) g tb D σ H1
theorem i_forE (q : ta σ H fun vs H1 => rForE K g tb D σ vs H1) : tFor (iEnum K ta) g tb D σ H := q
/-- each turn: a new tuple (i, x) -/
theorem i_rforE (hs : H a = some (.lst xs)) (Pv : Nat → L2.St → Hp → Prop) (h0 : Pv 0 σ H) (hl : ∀ i σ H, i ≤ xs.length → Pv i σ H → H a = some (.lst xs))
    (hs' : ∀ (i : Nat) x σ H T H', xs[i]? = some x → Pv i σ H → H T = none → H' T = some (.tup [.int (i : Int), x]) → Same H H' → g (.ref T) σ H' fun σ2 H2 => tb { D with nx := Pv (i + 1), ct := Pv (i + 1), bk := D.nx } σ2 H2) (hd : ∀ σ H, Pv xs.length σ H → D.nx σ H) : rForE K g tb D σ [.ref a] H := by
  refine ⟨a, xs, rfl, SqL.of hs, for_it walk_enum Pv h0 (fun i σ H hi p => SqL.of (hl i σ H hi p)) (fun i x σ H H' hi p y => ?_) hd⟩
  obtain ⟨T, y1, y2, rfl, nT, rfl, e1, e2⟩ := y
  cases (Option.some.inj e1)
  exact hs' i y2 σ H T _ e2 p nT upd_same (same_upd nT)
/-- a pair that is taken apart -/
theorem i_gpair {v w : V} {i j : Nat} {Q : L2.St → Hp → Prop} (h : H a = some (.tup [v, w])) (q : Q ((σ.set i (some v)).set j (some w)) H) : gTup K 2 (gCons (gName i) (gCons (gName j) gNil)) (.ref a) σ H Q :=
  ⟨a, [v, w], rfl, SqT.of h, rfl, _, _, rfl, _, _, rfl, rfl, q⟩
/-- f-strings: a part by repr -/
def rFmtR : V → Hp → VK → Prop := fun x H1 Q => (∃ y : Str, x = .str y ∧ (reprText y).length ≤ sizeLine ∧ Q (.str (reprText y)) H1) ∨ ∃ i : Int, x = .int i ∧ i.natAbs.log2 < 1920 ∧ Q (.str (toString i)) H1
variable {Q : VK}
theorem i_fmtR (q : te σ H fun x H1 => rFmtR x H1 Q) : tFmtR te σ H Q := q
theorem i_fmtR_s {y : Str} (h : (reprText y).length ≤ 100000) (q : Q (.str (reprText y)) H) : rFmtR (.str y) H Q := .inl ⟨y, rfl, sl_of h, q⟩
theorem i_fmt_s {y : Str} (h : y.length ≤ 100000) (q : Q (.str y) H) : rFmt (.str y) H Q := .inl ⟨y, rfl, sl_of h, q⟩
theorem i_slFrom {n : Nat} {p : Addr} {xs : List V} (h : H p = some (.lst xs)) (z : n ≤ xs.length) (q : ∀ r H', H r = none → H' r = some (.lst (xs.drop n)) → Same H H' → Q (.ref r) H') : rSlL K (.ref p) (some (n : Int)) none H Q := by
  refine ⟨p, xs, rfl, SqL.of h, ?_⟩
  have e : cutV xs (some (n : Int)) none = xs.drop n := by
    unfold cutV HT.sIx
    simp only
    rw [if_neg (by omega), Int.toNat_natCast, Nat.min_eq_left z, List.take_of_length_le (by rw [List.length_drop]; omega)]
  rw [e]
  exact i_new q
end
end Ly

namespace Ly
open PySem PySem.Spec PyProof.Rows L2
section
variable {K : PySem.W.Frag} {σ : L2.St} {H : Hp} {Q : VK} {te : TE} {tt : TT} {p : Addr} {xs : List V} {n j : Nat} {vs : List Nat}
/-! ### a comprehension over a tuple, staged -/
def rLcT (K : PySem.W.Frag) (g : TG) (tt : TT) (te : TE) (ws : List Nat) (σ : L2.St) : V → Hp → VK → Prop := fun x H1 Q => ∃ a, x = .ref a ∧ (∃ xs, SqT K H1 a xs) ∧ rLc (Itt K a) g tt te ws σ H1 Q
theorem i_lct {g : TG} {tl : TE} (q : tl σ H fun x H1 => rLcT K g tt te vs σ x H1 Q) : tLc (iTup K tl) g tt te vs σ H Q := q
/-- over a tuple, nothing changes but what is new -/
theorem i_rlcTF {l : Addr} (f : V → V) (hl : H l = some (.tup xs)) (hz : xs.length ≤ 1000) (hw : ∀ x, wipe ((wipe σ vs).set j (some x)) vs = wipe σ vs)
    (elt : ∀ x H' (Q' : VK), x ∈ xs → Same H H' → (∀ H4, Same H' H4 → Q' (f x) H4) → te ((wipe σ vs).set j (some x)) H' Q')
    (fin : ∀ r H', H r = none → Same H H' → H' r = some (.lst (xs.map f)) → Q (.ref r) H') : rLcT K (gName j) tYes te vs σ (.ref l) H Q := by
  refine ⟨l, rfl, ⟨xs, SqT.of hl⟩, fun D nD => ?_⟩
  have same0 : Same H (L2.upd H D (.lst [])) := fun c o e => by
    rw [upd_ne (ne_of_none e nD)]
    exact e
  refine lc_tup (K := K) (a := l) (xs := xs) (fun i H' => H' D = some (.lst ((xs.take i).map f)) ∧ Same H H') ⟨by simp [upd_same], same0⟩ (fun i H' _ h => SqT.of (h.2 _ _ hl)) ?_ ?_
  · rintro i x H' hi ⟨hD, s⟩
    have hlt : i < xs.length := (List.getElem?_eq_some_iff.mp hi).1
    have hx : x ∈ xs := List.mem_of_getElem? hi
    have ht : xs.take (i + 1) = xs.take i ++ [x] := by
      rw [List.take_add_one, hi]
      rfl
    refine ⟨hw _, ?_⟩
    show te ((wipe σ vs).set j (some x)) H' _
    refine elt x H' _ hx s fun H4 s4 => ⟨_, s4 _ _ hD, ?_, ?_, ?_⟩
    · rw [List.length_map]
      have h2 := List.length_take_le i xs
      exact small1000 (by omega)
    · rw [ht, List.map_append]
      exact upd_same
    · intro c o e
      rw [upd_ne (ne_of_none e nD)]
      exact s4 _ _ (s _ _ e)
  · rintro H' ⟨hD, s⟩
    rw [List.take_length] at hD
    exact fin D H' nD s hD
/-- over a list: what comes is told place by place; nothing changes but what is new -/
theorem i_rlcLG {l : Addr} (G : Nat → Hp → V → Prop) (hl : SqL K H l xs) (keep : ∀ H', Same H H' → SqL K H' l xs) (hz : xs.length ≤ 1000) (mono : ∀ i H1 H2 v, NL H1 H2 → G i H1 v → G i H2 v) (hw : ∀ x, wipe ((wipe σ vs).set j (some x)) vs = wipe σ vs)
    (turn : ∀ (i : Nat) x H' (Q' : VK), xs[i]? = some x → Same H H' → (∀ y H4, Same H' H4 → G i H4 y → Q' y H4) → te ((wipe σ vs).set j (some x)) H' Q')
    (fin : ∀ r H' ys, H r = none → Same H H' → H' r = some (.lst ys) → ys.length = xs.length → (∀ i v, ys[i]? = some v → G i H' v) → Q (.ref r) H') : rLcL K (gName j) tYes te vs σ (.ref l) H Q := by
  refine ⟨l, rfl, ⟨xs, hl⟩, fun D nD => ?_⟩
  have same0 : Same H (L2.upd H D (.lst [])) := fun c o e => by
    rw [upd_ne (ne_of_none e nD)]
    exact e
  refine lc_list (K := K) (a := l) (xs := xs) (fun i H' => ∃ ys, H' D = some (.lst ys) ∧ ys.length = i ∧ i ≤ xs.length ∧ Same H H' ∧ ∀ k v, ys[k]? = some v → G k H' v)
    ⟨[], upd_same, rfl, Nat.zero_le _, same0, fun m v e => by simp at e⟩ (fun i H' _ ⟨_, _, _, _, d, _⟩ => keep H' d) ?_ ?_
  · rintro i x H' hi ⟨ys, hD, hy, hle, d, g⟩
    have hlt : i < xs.length := (List.getElem?_eq_some_iff.mp hi).1
    refine ⟨hw _, ?_⟩
    show te ((wipe σ vs).set j (some x)) H' _
    refine turn i x H' _ hi d fun y H4 d4 gy => ?_
    have hD4 := d4 D _ hD
    refine ⟨ys, hD4, by rw [hy]; exact small1000 (by omega), ys ++ [y], upd_same, by rw [List.length_append, hy]; rfl, hlt, fun c o e => ?_, fun k v e => ?_⟩
    · rw [upd_ne (ne_of_none e nD)]
      exact d4 _ _ (d _ _ e)
    have kk := NL.upd (ys := ys ++ [y]) hD4
    rcases Nat.lt_or_ge k ys.length with h | h
    · rw [List.getElem?_append_left h] at e
      exact mono k _ _ v kk (mono k _ _ v (NL.same d4) (g k v e))
    · rw [List.getElem?_append_right h] at e
      have : k - ys.length = 0 := by
        have := (List.getElem?_eq_some_iff.mp e).1
        simp at this
        omega
      rw [this] at e
      have e2 : y = v := Option.some.inj e
      subst e2
      have : k = i := by omega
      subst this
      exact mono _ _ _ y kk gy
  · rintro H' ⟨ys, hD, hy, _, d, g⟩
    exact fin D H' ys nD d hD hy g
theorem i_listT {q : Addr} {ys : List V} (h : H q = some (.tup ys)) (k : ∀ l H', H l = none → H' l = some (.lst ys) → Same H H' → Q (.ref l) H') : rListOf K [.ref q] H Q := ⟨q, ys, rfl, .inr (SqT.of h), i_new k⟩
theorem dB_dp {a : Addr} {bs : List Bool} (h : H a = some (.lst (bs.map V.bl))) : Dp K H (.ref a) (dB bs) := by
  refine .lst (SqL.of h) ?_
  clear h
  induction bs with
  | nil => exact .nil
  | cons n ns ih => exact .cons (.bl n) ih
theorem i_eqBs {r r' : Addr} {bs : List Bool} (h1 : H r = some (.lst (bs.map V.bl))) (h2 : H r' = some (.lst (bs.map V.bl))) (q : Q (.bl true) H) : rEqU K (.ref r) (.ref r') H Q := i_eqD (dB_dp h1) (dB_dp h2) (dB_shaped bs) q
/-- ", ".join of three -/
theorem join3 (s x y z : Str) : Txt.join s [x, y, z] = x ++ s ++ y ++ s ++ z := by
  rw [TL.join_eq]
  show x ++ s ++ (y ++ s ++ z) = _
  rw [← app_assoc, ← app_assoc]
end
end Ly
namespace Ly
open PySem PySem.Spec PyProof.Rows L2
theorem pi_tupK {X : Cx} {K : PySem.W.Frag} {e tg : Expr} {te : TE} (hK : X.K = K) (he : PE X e te) : PI X tg e (iTup K te) := by
  subst hK
  exact pi_tup he
theorem pi_enumK {X : Cx} {K : PySem.W.Frag} {e : Expr} {ta : TA} {p pos tpos : Pos} {elts : List Expr} {kk : Nat} (hK : X.K = K) (hg : Gl X "enumerate") (hm : X.mg "enumerate" = none) (ha : PA X [e] ta) (hs : starEach [e] X.env = [(false, eval e X.env)] := by rfl) :
    PI X (.Tuple elts kk tpos) (.Call (.Name "enumerate" p) [e] [] pos) (iEnum K ta) := by
  subst hK
  exact pi_enum hg hm ha hs
theorem pg_tupK {X : Cx} {K : PySem.W.Frag} {es : List Expr} {k : Nat} {pos : Pos} {t : TGs} {n : Nat} (hK : X.K = K) (hc : X.calm = true) (h : PGs X es t)
    (hn : (assignEach es X.env).length = n := by rfl) (hst : (assignEach es X.env).findIdx? (·.1) = none := by rfl) : PG X (.Tuple es k pos) (gTup K n t) := by
  subst hK
  exact pg_tup hc h hn hst
end Ly

namespace Ly
open PySem PySem.Spec PyProof.Rows L2
/-! ### constructors by keywords in any order, without defaults -/
theorem kbn_ofN {K : PySem.W.Frag} {x qual : Str} {st : Stmt} {f : Addr} {fd : FuncData} {ps ks : List Str} {n : Nat} {g : {α : Type} → List α → List α → List α} (F : FunD K x qual (defArgs st) (defBody st) (defScope st) [] [] f fd)
    (hrel : ∀ {vs zs : List V} {us ws : List Value}, Vals vs us → Vals zs ws → Vals (g vs zs) (g us ws))
    (h : ∀ (kV doc pm : Value) (an : Option Addr) (cdv ct : Value) (us ws : List Value), us.length = n → ws.length = ks.length →
      bindArgs (PySem.W.fnOf x qual (defArgs st) (defBody st) (defScope st) .none kV doc pm an cdv ct) ⟨us, ks.zip ws⟩ = pure (ps.zip (g us ws))) : KBn K fd ps n ks g g := by
  obtain ⟨oc, od, dV, kV, doc, pm, an, cdv, ct, osl, rfl, lk, hcd, hD, hK⟩ := F.ex
  rcases hD with ⟨_, rfl⟩ | ⟨e, _⟩
  · exact ⟨fun s us ws _ l1 l2 => .of_eq (h kV doc pm an cdv ct us ws l1 l2), fun r1 r2 => hrel r1 r2⟩
  · exact absurd rfl e
structure MakKg (g : {α : Type} → List α → List α → List α) (W : Wd) (k : Nat) (x : Str) (C : Addr) (ks : List Str) (sp : Sp) : Prop where
  ex : ∃ (f : Addr) (fd : FuncData) (ps : List Str), Mk W.K C f ∧ FnOk W.P W.w W.K W.mg W.base CX0 k f fd ps sp ∧ W.mg x = some (.ref C) ∧ KBn W.K fd ps 1 ks g g
theorem pe_makKg {g : {α : Type} → List α → List α → List α} {X : Cx} {k j : Nat} {x : Str} {C : Addr} {ks : List Str} {sp : Sp} {p pos : Pos} {kws : List Keyword} {tk : TA} (h : MakKg g ⟨X.prog, X.w, X.K, X.mg, X.base⟩ k x C ks sp) (hr : Room j X.A) (hk : k + 1 ≤ j) (hg : Gl X x) (hkw : PK X kws tk)
    (hall : (backToKw pos (keywordEach kws X.env)).all (·.1.isSome) = true := by rfl) (hks : (backToKw pos (keywordEach kws X.env)).filterMap (·.1) = ks := by rfl) (hdb : (x == ("__debug__" : Str)) = false := by decide)
    (hpl : ((backTo pos (starEach [] X.env)).any (·.1) || (backToKw pos (keywordEach kws X.env)).any (·.1.isNone)) = false := by rfl) :
    PE X (.Call (.Name x p) [] kws pos) (tMakeK C 0 ks.length sp g E0 tNil tk) := by
  obtain ⟨f, fd, ps, M, F, hm, b⟩ := h.ex
  exact pe_makeK0 M F (hr.mono hk) hg hm b pass0 hkw hall hks hdb hpl
def rMakeKg (g : {α : Type} → List α → List α → List α) (n : Nat) (C : Addr) (sp : Sp) : List V → Hp → VK → Prop := fun zs H2 Q => zs.length = n ∧ ∀ x dx, H2 x = none → H2 dx = none → dx ≠ x → sp (g [.ref x] zs) (upd (upd H2 dx (.own x)) x (.ins C dx [])) (fun v H3 => v = .non ∧ Q (.ref x) H3) E0
theorem i_makeKg {g : {α : Type} → List α → List α → List α} {n : Nat} {C : Addr} {sp : Sp} {tk : TA} {σ : L2.St} {H : Hp} {Q : VK} (q : tk σ H fun zs H2 => rMakeKg g n C sp zs H2 Q) : tMakeK C 0 n sp g E0 tNil tk σ H Q := by
  have e : (fun (zs : List V) (H2 : Hp) => rMakeKg g n C sp zs H2 Q) = fun zs H2 => ([] : List V).length = 0 ∧ zs.length = n ∧ ∀ x dx, H2 x = none → H2 dx = none → dx ≠ x → sp (g (.ref x :: []) zs) (upd (upd H2 dx (.own x)) x (.ins C dx [])) (fun v H3 => v = .non ∧ Q (.ref x) H3) E0 := by
    funext zs H2
    simp [rMakeKg]
  rw [e] at q
  exact q
/-- the last two, then the first: goal, task, start -/
def gR {α : Type} (us ws : List α) : List α := us ++ (ws.drop 1 ++ ws.take 1)
end Ly

/-! A name by isascii, isalpha, islower: only letters from a to z. -/
namespace Ly
open PySem PySem.Spec PyProof.Rows L2
def lowB (c : Nat) : Bool := decide (97 ≤ c) && decide (c ≤ 122)
def uppB (c : Nat) : Bool := decide (65 ≤ c) && decide (c ≤ 90)
theorem sg_alpha : ∀ c : Fin 128, Unicode.isAlpha c.val = (lowB c.val || uppB c.val) := by decide +kernel
theorem sg_lower : ∀ c : Fin 128, Unicode.isLower c.val = lowB c.val := by decide +kernel
theorem sg_upper : ∀ c : Fin 128, (Unicode.isUpper c.val || Unicode.isTitle c.val) = uppB c.val := by decide +kernel
theorem tx_ascii (x : Str) : Txt.isascii x = x.cps.toList.all (fun c => decide (c < 128)) := by
  unfold Txt.isascii
  rw [← Array.all_toList]
theorem tx_alpha (x : Str) : Txt.isalpha x = (decide (x.length > 0) && x.cps.toList.all Unicode.isAlpha) := by
  unfold Txt.isalpha
  rw [← Array.all_toList]
theorem tx_lower (x : Str) : Txt.islower x = (x.cps.toList.any Unicode.isLower && !x.cps.toList.any (fun c => Unicode.isUpper c || Unicode.isTitle c)) := by
  unfold Txt.islower
  rw [← Array.any_toList, ← Array.any_toList]
theorem str_len (x : Str) : x.length = x.cps.toList.length := (Array.length_toList ..).symm
theorem low_upp {c : Nat} (h : lowB c = true) : uppB c = false := by
  unfold lowB at h
  unfold uppB
  rw [Bool.and_eq_true, decide_eq_true_eq, decide_eq_true_eq] at h
  rw [decide_eq_false (show ¬ c ≤ 90 by omega), Bool.and_false]
theorem name_signs (x : Str) : (Txt.isascii x && (Txt.isalpha x && Txt.islower x)) = (decide (1 ≤ x.length) && x.cps.toList.all lowB) := by
  rw [tx_ascii, tx_alpha, tx_lower, str_len]
  cases he : x.cps.toList with
  | nil => rfl
  | cons c0 cs =>
    rw [show decide ((c0 :: cs).length > 0) = true from decide_eq_true (Nat.succ_pos _), show decide (1 ≤ (c0 :: cs).length) = true from decide_eq_true (Nat.succ_pos _), Bool.true_and, Bool.true_and]
    by_cases h : (c0 :: cs).all lowB = true
    · rw [h]
      have hm := List.all_eq_true.mp h
      have lt : ∀ c ∈ c0 :: cs, c < 128 := fun c m => by
        have z := hm c m
        unfold lowB at z
        rw [Bool.and_eq_true, decide_eq_true_eq, decide_eq_true_eq] at z
        omega
      have e1 : (c0 :: cs).all (fun c => decide (c < 128)) = true := List.all_eq_true.mpr fun c m => decide_eq_true (lt c m)
      have e2 : (c0 :: cs).all Unicode.isAlpha = true := List.all_eq_true.mpr fun c m => by
        rw [sg_alpha ⟨c, lt c m⟩, hm c m]
        rfl
      have e3 : (c0 :: cs).any Unicode.isLower = true := List.any_eq_true.mpr ⟨c0, List.mem_cons_self, by
        rw [sg_lower ⟨c0, lt c0 List.mem_cons_self⟩]
        exact hm c0 List.mem_cons_self⟩
      have e4 : (c0 :: cs).any (fun c => Unicode.isUpper c || Unicode.isTitle c) = false := by
        rw [Bool.eq_false_iff]
        intro z
        obtain ⟨c, m, hc⟩ := List.any_eq_true.mp z
        rw [sg_upper ⟨c, lt c m⟩, low_upp (hm c m)] at hc
        cases hc
      rw [e1, e2, e3, e4]
      rfl
    · rw [Bool.eq_false_iff.mpr h]
      rw [Bool.eq_false_iff]
      intro z
      rw [Bool.and_eq_true, Bool.and_eq_true, Bool.and_eq_true] at z
      obtain ⟨z1, z2, z3, z4⟩ := z
      refine h (List.all_eq_true.mpr fun c m => ?_)
      have l : c < 128 := by simpa using List.all_eq_true.mp z1 c m
      have a := List.all_eq_true.mp z2 c m
      rw [sg_alpha ⟨c, l⟩] at a
      have u : uppB c = false := by
        rw [Bool.eq_false_iff]
        intro q
        have : (c0 :: cs).any (fun c => Unicode.isUpper c || Unicode.isTitle c) = true := List.any_eq_true.mpr ⟨c, m, by
          rw [sg_upper ⟨c, l⟩]
          exact q⟩
        rw [this] at z4
        cases z4
      rw [u, Bool.or_false] at a
      exact a

section
variable {K : PySem.W.Frag} {σ : L2.St} {H : Hp} {Q : VK} {x : Str} {n : Nat}
theorem i_sgn {g : Str → Bool} (h : σ[n]? = some (some (.str x))) (q : Q (.bl (g x)) H) : tBM0 K "str" (fun x xs H Q => ∃ a, x = V.str a ∧ xs = [] ∧ True ∧ Q (V.bl (g a)) H) (tVar n) σ H Q :=
  ⟨.str x, h, rfl, x, rfl, rfl, trivial, q⟩
/-- isascii and isalpha and islower of a name -/
theorem i_name (h : σ[n]? = some (some (.str x))) (q : Q (.bl (decide (1 ≤ x.length) && x.cps.toList.all lowB)) H) :
    tAndV (tBM0 K "str" (fun x xs H Q => ∃ a, x = V.str a ∧ xs = [] ∧ True ∧ Q (V.bl (Txt.isascii a)) H) (tVar n))
      (tAndV (tBM0 K "str" (fun x xs H Q => ∃ a, x = V.str a ∧ xs = [] ∧ True ∧ Q (V.bl (Txt.isalpha a)) H) (tVar n))
        (tBM0 K "str" (fun x xs H Q => ∃ a, x = V.str a ∧ xs = [] ∧ True ∧ Q (V.bl (Txt.islower a)) H) (tVar n))) σ H Q := by
  rw [← name_signs] at q
  refine i_andV ?_
  refine i_sgn h ⟨_, rfl, ?_⟩
  cases h1 : Txt.isascii x with
  | false =>
    rw [h1] at q
    exact q
  | true =>
    rw [h1] at q
    rw [if_pos rfl]
    refine i_andV ?_
    refine i_sgn h ⟨_, rfl, ?_⟩
    cases h2 : Txt.isalpha x with
    | false =>
      rw [h2] at q
      exact q
    | true =>
      rw [h2] at q
      rw [if_pos rfl]
      exact i_sgn h q
end
end Ly

namespace Lw
open PySem PySem.Spec PyProof.Rows L2 Ly
def top (i : Nat) : Stmt := PySem.Challenge.pw_evenloads_k13_moves_in_order.main.body.getD i (.Pass ⟨0, 0, 0, 0⟩)
abbrev s_is_name : Stmt := top 1
abbrev N_is_name : List Str := ["value"]
theorem sc_is_name : FnScope N_is_name ["value"] (defScope s_is_name) := ⟨rfl, rfl, rfl, by decide +kernel, rfl, by decide +kernel, by decide +kernel⟩
theorem bd_is_name : BindOk "is_name" "is_name" s_is_name ["value"] := fun _ _ _ _ _ _ us hl => match us, hl with | [_], _ => rfl
abbrev s_Move_init : Stmt := inClass (top 6) 0
abbrev N_Move_init : List Str := ["self", "task", "start", "goal", "name"]
theorem sc_Move_init : FnScope N_Move_init ["self", "task", "start", "goal"] (defScope s_Move_init) := ⟨rfl, rfl, rfl, by decide +kernel, rfl, by decide +kernel, by decide +kernel⟩
theorem bd_Move_init : BindOk "__init__" "Move.__init__" s_Move_init ["self", "task", "start", "goal"] := fun _ _ _ _ _ _ us hl => match us, hl with | [_, _, _, _], _ => rfl
abbrev s_Move_task : Stmt := inClass (top 6) 1
abbrev N_Move_task : List Str := ["self"]
theorem sc_Move_task : FnScope N_Move_task ["self"] (defScope s_Move_task) := ⟨rfl, rfl, rfl, by decide +kernel, rfl, by decide +kernel, by decide +kernel⟩
theorem bd_Move_task : BindOk "task" "Move.task" s_Move_task ["self"] := fun _ _ _ _ _ _ us hl => match us, hl with | [_], _ => rfl
abbrev s_Move_start : Stmt := inClass (top 6) 2
abbrev N_Move_start : List Str := ["self"]
theorem sc_Move_start : FnScope N_Move_start ["self"] (defScope s_Move_start) := ⟨rfl, rfl, rfl, by decide +kernel, rfl, by decide +kernel, by decide +kernel⟩
theorem bd_Move_start : BindOk "start" "Move.start" s_Move_start ["self"] := fun _ _ _ _ _ _ us hl => match us, hl with | [_], _ => rfl
abbrev s_Move_goal : Stmt := inClass (top 6) 3
abbrev N_Move_goal : List Str := ["self"]
theorem sc_Move_goal : FnScope N_Move_goal ["self"] (defScope s_Move_goal) := ⟨rfl, rfl, rfl, by decide +kernel, rfl, by decide +kernel, by decide +kernel⟩
theorem bd_Move_goal : BindOk "goal" "Move.goal" s_Move_goal ["self"] := fun _ _ _ _ _ _ us hl => match us, hl with | [_], _ => rfl
abbrev s_Move_lt : Stmt := inClass (top 6) 4
abbrev N_Move_lt : List Str := ["self", "other"]
theorem sc_Move_lt : FnScope N_Move_lt ["self", "other"] (defScope s_Move_lt) := ⟨rfl, rfl, rfl, by decide +kernel, rfl, by decide +kernel, by decide +kernel⟩
theorem bd_Move_lt : BindOk "__lt__" "Move.__lt__" s_Move_lt ["self", "other"] := fun _ _ _ _ _ _ us hl => match us, hl with | [_, _], _ => rfl
abbrev s_Move_le : Stmt := inClass (top 6) 5
abbrev N_Move_le : List Str := ["self", "other"]
theorem sc_Move_le : FnScope N_Move_le ["self", "other"] (defScope s_Move_le) := ⟨rfl, rfl, rfl, by decide +kernel, rfl, by decide +kernel, by decide +kernel⟩
theorem bd_Move_le : BindOk "__le__" "Move.__le__" s_Move_le ["self", "other"] := fun _ _ _ _ _ _ us hl => match us, hl with | [_, _], _ => rfl
abbrev s_Move_gt : Stmt := inClass (top 6) 6
abbrev N_Move_gt : List Str := ["self", "other"]
theorem sc_Move_gt : FnScope N_Move_gt ["self", "other"] (defScope s_Move_gt) := ⟨rfl, rfl, rfl, by decide +kernel, rfl, by decide +kernel, by decide +kernel⟩
theorem bd_Move_gt : BindOk "__gt__" "Move.__gt__" s_Move_gt ["self", "other"] := fun _ _ _ _ _ _ us hl => match us, hl with | [_, _], _ => rfl
abbrev s_Move_ge : Stmt := inClass (top 6) 7
abbrev N_Move_ge : List Str := ["self", "other"]
theorem sc_Move_ge : FnScope N_Move_ge ["self", "other"] (defScope s_Move_ge) := ⟨rfl, rfl, rfl, by decide +kernel, rfl, by decide +kernel, by decide +kernel⟩
theorem bd_Move_ge : BindOk "__ge__" "Move.__ge__" s_Move_ge ["self", "other"] := fun _ _ _ _ _ _ us hl => match us, hl with | [_, _], _ => rfl
abbrev s_Move_eq : Stmt := inClass (top 6) 8
abbrev N_Move_eq : List Str := ["self", "other"]
theorem sc_Move_eq : FnScope N_Move_eq ["self", "other"] (defScope s_Move_eq) := ⟨rfl, rfl, rfl, by decide +kernel, rfl, by decide +kernel, by decide +kernel⟩
theorem bd_Move_eq : BindOk "__eq__" "Move.__eq__" s_Move_eq ["self", "other"] := fun _ _ _ _ _ _ us hl => match us, hl with | [_, _], _ => rfl
abbrev s_Move_neg : Stmt := inClass (top 6) 9
abbrev N_Move_neg : List Str := ["self"]
theorem sc_Move_neg : FnScope N_Move_neg ["self"] (defScope s_Move_neg) := ⟨rfl, rfl, rfl, by decide +kernel, rfl, by decide +kernel, by decide +kernel⟩
theorem bd_Move_neg : BindOk "__neg__" "Move.__neg__" s_Move_neg ["self"] := fun _ _ _ _ _ _ us hl => match us, hl with | [_], _ => rfl
abbrev s_Move_str : Stmt := inClass (top 6) 10
abbrev N_Move_str : List Str := ["self"]
theorem sc_Move_str : FnScope N_Move_str ["self"] (defScope s_Move_str) := ⟨rfl, rfl, rfl, by decide +kernel, rfl, by decide +kernel, by decide +kernel⟩
theorem bd_Move_str : BindOk "__str__" "Move.__str__" s_Move_str ["self"] := fun _ _ _ _ _ _ us hl => match us, hl with | [_], _ => rfl
abbrev s_Move_repr : Stmt := inClass (top 6) 11
abbrev N_Move_repr : List Str := ["self"]
theorem sc_Move_repr : FnScope N_Move_repr ["self"] (defScope s_Move_repr) := ⟨rfl, rfl, rfl, by decide +kernel, rfl, by decide +kernel, by decide +kernel⟩
theorem bd_Move_repr : BindOk "__repr__" "Move.__repr__" s_Move_repr ["self"] := fun _ _ _ _ _ _ us hl => match us, hl with | [_], _ => rfl
abbrev s_law_pot : Stmt := top 8
abbrev N_law_pot : List Str := ["_law_script", "_law_k", "_law_cell"]
theorem sc_law_pot : FnScope N_law_pot ["_law_script", "_law_k"] (defScope s_law_pot) := ⟨rfl, rfl, rfl, by decide +kernel, rfl, by decide +kernel, by decide +kernel⟩
theorem bd_law_pot : BindOk "_law_pot" "_law_pot" s_law_pot ["_law_script", "_law_k"] := fun _ _ _ _ _ _ us hl => match us, hl with | [_, _], _ => rfl
abbrev s_law_draw : Stmt := top 9
abbrev N_law_draw : List Str := ["_law_pot_here", "_law_size", "_law_digit"]
theorem sc_law_draw : FnScope N_law_draw ["_law_pot_here", "_law_size"] (defScope s_law_draw) := ⟨rfl, rfl, rfl, by decide +kernel, rfl, by decide +kernel, by decide +kernel⟩
theorem bd_law_draw : BindOk "_law_draw" "_law_draw" s_law_draw ["_law_pot_here", "_law_size"] := fun _ _ _ _ _ _ us hl => match us, hl with | [_, _], _ => rfl
abbrev s_law_pick : Stmt := top 10
abbrev N_law_pick : List Str := ["_law_pot_here", "_law_some"]
theorem sc_law_pick : FnScope N_law_pick ["_law_pot_here", "_law_some"] (defScope s_law_pick) := ⟨rfl, rfl, rfl, by decide +kernel, rfl, by decide +kernel, by decide +kernel⟩
theorem bd_law_pick : BindOk "_law_pick" "_law_pick" s_law_pick ["_law_pot_here", "_law_some"] := fun _ _ _ _ _ _ us hl => match us, hl with | [_, _], _ => rfl
abbrev s_law_named : Stmt := top 11
abbrev N_law_named : List Str := ["_law_pot_here", "_law_size", "_law_taken", "_law_k", "_law_letters", "_law_found", "_law_label", "_law_spare", "_law_turn", "_law_near"]
theorem sc_law_named : FnScope N_law_named ["_law_pot_here", "_law_size", "_law_taken"] (defScope s_law_named) := ⟨rfl, rfl, rfl, by decide +kernel, rfl, by decide +kernel, by decide +kernel⟩
theorem bd_law_named : BindOk "_law_named" "_law_named" s_law_named ["_law_pot_here", "_law_size", "_law_taken"] := fun _ _ _ _ _ _ us hl => match us, hl with | [_, _, _], _ => rfl
abbrev s_law_drawn : Stmt := top 12
abbrev N_law_drawn : List Str := ["_law_pot_here", "_law_size", "_law_spots", "_law_jobs", "_law_found", "_law_turn", "_law_here", "_law_there", "_law_spot"]
theorem sc_law_drawn : FnScope N_law_drawn ["_law_pot_here", "_law_size"] (defScope s_law_drawn) := ⟨rfl, rfl, rfl, by decide +kernel, rfl, by decide +kernel, by decide +kernel⟩
theorem bd_law_drawn : BindOk "_law_drawn" "_law_drawn" s_law_drawn ["_law_pot_here", "_law_size"] := fun _ _ _ _ _ _ us hl => match us, hl with | [_, _], _ => rfl
abbrev s_law_made : Stmt := top 13
abbrev N_law_made : List Str := ["_law_pot_here", "_law_row"]
theorem sc_law_made : FnScope N_law_made ["_law_pot_here", "_law_row"] (defScope s_law_made) := ⟨rfl, rfl, rfl, by decide +kernel, rfl, by decide +kernel, by decide +kernel⟩
theorem bd_law_made : BindOk "_law_made" "_law_made" s_law_made ["_law_pot_here", "_law_row"] := fun _ _ _ _ _ _ us hl => match us, hl with | [_, _], _ => rfl
abbrev s_law_two_right : Stmt := top 14
abbrev N_law_two_right : List Str := ["_law_one", "_law_mate", "_law_row", "_law_other", "_law_told"]
theorem sc_law_two_right : FnScope N_law_two_right ["_law_one", "_law_mate", "_law_row", "_law_other"] (defScope s_law_two_right) := ⟨rfl, rfl, rfl, by decide +kernel, rfl, by decide +kernel, by decide +kernel⟩
theorem bd_law_two_right : BindOk "_law_two_right" "_law_two_right" s_law_two_right ["_law_one", "_law_mate", "_law_row", "_law_other"] := fun _ _ _ _ _ _ us hl => match us, hl with | [_, _, _, _], _ => rfl
abbrev s_law_alone_right : Stmt := top 15
abbrev N_law_alone_right : List Str := ["_law_one", "_law_row", "_law_back", "_law_word"]
theorem sc_law_alone_right : FnScope N_law_alone_right ["_law_one", "_law_row"] (defScope s_law_alone_right) := ⟨rfl, rfl, rfl, by decide +kernel, rfl, by decide +kernel, by decide +kernel⟩
theorem bd_law_alone_right : BindOk "_law_alone_right" "_law_alone_right" s_law_alone_right ["_law_one", "_law_row"] := fun _ _ _ _ _ _ us hl => match us, hl with | [_, _], _ => rfl
abbrev s_law_in_order : Stmt := top 16
abbrev N_law_in_order : List Str := ["_law_moves_now", "_law_found", "_law_one", "_law_place", "_law_mate"]
theorem sc_law_in_order : FnScope N_law_in_order ["_law_moves_now"] (defScope s_law_in_order) := ⟨rfl, rfl, rfl, by decide +kernel, rfl, by decide +kernel, by decide +kernel⟩
theorem bd_law_in_order : BindOk "_law_in_order" "_law_in_order" s_law_in_order ["_law_moves_now"] := fun _ _ _ _ _ _ us hl => match us, hl with | [_], _ => rfl
abbrev s_law_right : Stmt := top 17
abbrev N_law_right : List Str := ["_law_pot_here", "_law_rows", "_law_made_here", "_law_again", "_law_told", "_law_place", "_law_one", "_law_row", "_law_spot", "_law_mate"]
theorem sc_law_right : FnScope N_law_right ["_law_pot_here"] (defScope s_law_right) := ⟨rfl, rfl, rfl, by decide +kernel, rfl, by decide +kernel, by decide +kernel⟩
theorem bd_law_right : BindOk "_law_right" "_law_right" s_law_right ["_law_pot_here"] := fun _ _ _ _ _ _ us hl => match us, hl with | [_], _ => rfl
abbrev s_law : Stmt := top 18
abbrev N_law : List Str := ["_law_script", "_law_k"]
theorem sc_law : FnScope N_law ["_law_script"] (defScope s_law) := ⟨rfl, rfl, rfl, by decide +kernel, rfl, by decide +kernel, by decide +kernel⟩
theorem bd_law : BindOk "law" "law" s_law ["_law_script"] := fun _ _ _ _ _ _ us hl => match us, hl with | [_], _ => rfl
structure Ad where
  Move : Addr
structure Txt (K : PySem.W.Frag) (mg : Str → Option Value) (a : Ad) : Prop where
  o_Move : OwnC K mg "Move" a.Move
  n_Move_names : NoAttr K a.Move "_names"
  d_is_name : GF K mg "is_name" s_is_name
  d_Move_init : GI K a.Move "Move.__init__" s_Move_init []
  d_Move_task : GP K a.Move "task" "Move.task" s_Move_task
  d_Move_start : GP K a.Move "start" "Move.start" s_Move_start
  d_Move_goal : GP K a.Move "goal" "Move.goal" s_Move_goal
  d_Move_lt : GM K a.Move "__lt__" "Move.__lt__" s_Move_lt
  d_Move_le : GM K a.Move "__le__" "Move.__le__" s_Move_le
  d_Move_gt : GM K a.Move "__gt__" "Move.__gt__" s_Move_gt
  d_Move_ge : GM K a.Move "__ge__" "Move.__ge__" s_Move_ge
  d_Move_eq : GM K a.Move "__eq__" "Move.__eq__" s_Move_eq
  d_Move_neg : GM K a.Move "__neg__" "Move.__neg__" s_Move_neg
  d_Move_str : GM K a.Move "__str__" "Move.__str__" s_Move_str
  d_Move_repr : GM K a.Move "__repr__" "Move.__repr__" s_Move_repr
  d_law_pot : GF K mg "_law_pot" s_law_pot
  d_law_draw : GF K mg "_law_draw" s_law_draw
  d_law_pick : GF K mg "_law_pick" s_law_pick
  d_law_named : GF K mg "_law_named" s_law_named
  d_law_drawn : GF K mg "_law_drawn" s_law_drawn
  d_law_made : GF K mg "_law_made" s_law_made
  d_law_two_right : GF K mg "_law_two_right" s_law_two_right
  d_law_alone_right : GF K mg "_law_alone_right" s_law_alone_right
  d_law_in_order : GF K mg "_law_in_order" s_law_in_order
  d_law_right : GF K mg "_law_right" s_law_right
  d_law : GF K mg "law" s_law
  x_Move_ne : PySem.W.findIn K (.ref a.Move) "__ne__" = some (some (.builtin "object.__ne__"))
  b_abs : mg "abs" = none
  b_len : mg "len" = none
  b_divmod : mg "divmod" = none
  b_max : mg "max" = none
  b_min : mg "min" = none
  b_all : mg "all" = none
  b_int : mg "int" = none
  b_str : mg "str" = none
  b_bool : mg "bool" = none
  b_isinstance : mg "isinstance" = none
  b_range : mg "range" = none
  b_repr : mg "repr" = none
  b_list : mg "list" = none
  b_sorted : mg "sorted" = none
  b_enumerate : mg "enumerate" = none
  s_Move_tuple : PySem.W.subIn K (.type "tuple") (.ref a.Move) = some false
  kt_Move_tuple : PySem.W.kitOne K (.type "tuple") (.ref a.Move) = some false
  s_Move_str : PySem.W.subIn K (.type "str") (.ref a.Move) = some false
  kt_Move_str : PySem.W.kitOne K (.type "str") (.ref a.Move) = some false
  s_Move_list : PySem.W.subIn K (.type "list") (.ref a.Move) = some false
  kt_Move_list : PySem.W.kitOne K (.type "list") (.ref a.Move) = some false
end Lw

namespace Lw
open PySem PySem.Spec PyProof.Rows L2 Ly
local macro_rules | `(tactic| walk_at "rd") => `(tactic| first
  | ((with_reducible refine' i_var ?hv ?_); (case hv => exact rfl))
  | with_reducible refine i_c ?_
  | with_reducible refine i_op ?_
  | with_reducible refine i_cons ?_
  | with_reducible refine i_nil ?_
  | with_reducible refine i_cb ?_
  | with_reducible refine i_call ?_
  | with_reducible refine i_I0 ?_
  | with_reducible refine i_add_i ?_
  | with_reducible refine i_sub_i ?_
  | with_reducible refine i_md_i (by first | decide | assumption) ?_
  | ((with_reducible refine' i_md_i ?c ?_); rotate_left)
  | ((with_reducible refine' i_mul_i ?c ?_); rotate_left)
  | with_reducible refine i_fd_i (by decide) ?_
  | ((with_reducible refine' i_fd_i ?c ?_); rotate_left)
  | with_reducible refine i_int ?_
  | with_reducible refine i_abs ?_
  | with_reducible refine i_max2 ?_
  | with_reducible refine i_min2 ?_
  | with_reducible refine i_gcd ?_
  | with_reducible refine i_seq ?_
  | with_reducible refine i_if ?_
  | with_reducible refine i_asg ?_
  | with_reducible refine i_ret ?_
  | with_reducible refine i_drop ?_
  | with_reducible refine i_next ?_
  | with_reducible refine i_un ?_
  | with_reducible refine i_U ?_
  | ((with_reducible refine i_gname ?_); dsimp only [List.set])
  | with_reducible refine i_test ?_
  | with_reducible refine i_not ?_
  | with_reducible refine i_or ?_
  | with_reducible refine i_and ?_
  | with_reducible refine i_tb ?_
  | with_reducible refine i_andV ?_
  | with_reducible refine i_orV ?_
  | with_reducible refine i_notV ?_
  | with_reducible refine i_ifx ?_
  | with_reducible refine i_ext ?_
  | with_reducible refine i_exf ?_
  | with_reducible refine i_exn ?_
  | with_reducible refine i_itt ?_
  | with_reducible refine i_itf ?_
  | with_reducible refine i_gsub ?_
  | with_reducible refine i_nt ?_
  | with_reducible refine i_tup ?_
  | with_reducible refine i_lst ?_
  | with_reducible refine i_nf ?_
  | with_reducible refine i_isint ?_
  | ((with_reducible refine' i_top ?r ?_); (case r => walk_at "hp"))
  | ((with_reducible refine' i_bot ?r ?_); (case r => walk_at "hp"))
  | with_reducible refine i_fld ?_
  | with_reducible refine i_sfld ?_
  | with_reducible refine i_pp ?_
  | with_reducible refine i_meth ?_
  | with_reducible refine i_smeth ?_
  | with_reducible refine i_make ?_
  | with_reducible refine i_sl ?_
  | with_reducible refine i_noPart ?_
  | with_reducible refine i_part ?_
  | with_reducible refine i_smethK ?_
  | with_reducible refine i_sk1 ?_
  | with_reducible refine i_makeK ?_
  | with_reducible refine i_methK ?_
  | with_reducible refine i_mk11 ?_
  | ((with_reducible refine' i_rmk ?r ?h1 ?h2 ?_); (case r => walk_at "hp"); (case h1 => decide +kernel); (case h2 => decide +kernel))
  | with_reducible refine i_tpar ?_
  | ((with_reducible refine i_rpar ?_); dsimp only [List.set])
  | with_reducible refine i_eq_s rfl ?_
  | with_reducible refine i_ne_s rfl ?_
  | ((with_reducible refine' i_rtop ?r ?c ?n ?_); (case r => walk_at "hp"); (case c => assumption); (case n => assumption))
  | ((with_reducible refine' i_rbot ?r ?c ?n ?_); (case r => walk_at "hp"); (case c => assumption); (case n => assumption))
  | ((with_reducible refine' i_rpp ?r ?_); (case r => walk_at "hp"))
  | ((with_reducible refine' i_rmeth ?r ?h1 ?h2 ?_); (case r => walk_at "hp"); (case h1 => decide +kernel); (case h2 => decide +kernel))
  | ((with_reducible refine' i_ix_l ?hp ?ha ?_); (case hp => walk_at "hp"); (case ha => exact rfl))
  | ((with_reducible refine' i_len_l ?hp ?_); (case hp => walk_at "hp"))
  | ((with_reducible refine' i_ix_f0 ?hp ?_); (case hp => walk_at "hp"))
  | ((with_reducible refine' i_ix_f1 ?hp ?_); (case hp => walk_at "hp"))
  | ((with_reducible refine' i_ix_t ?hp ?ha ?_); (case hp => walk_at "hp"); (case ha => exact rfl)))
local macro_rules | `(tactic| walk_at "hp") => `(tactic| first
  | assumption
  | exact upd_same
  | exact SqL.of (by assumption)
  | (refine' Dr.tup (by assumption) ?hq; (case hq => walk_at "hp"))
  | (refine' FrL.same (by assumption) ?hq; (case hq => walk_at "hp"))
  | (refine' FracAt.same (by assumption) ?hq; (case hq => walk_at "hp"))
  | (refine' FracAt.nl (by assumption) ?hq; (case hq => walk_at "hp"))
  | (refine' RatAt.nl (by assumption) ?hq; (case hq => walk_at "hp"))
  | (refine' Num.nl (by assumption) ?hq; (case hq => walk_at "hp"))
  | (refine' FracAt.pk (by assumption) ?hq; (case hq => walk_at "hp"))
  | (refine' RatAt.pk (by assumption) ?hq; (case hq => walk_at "hp"))
  | (refine' Num.pk (by assumption) ?hq; (case hq => walk_at "hp"))
  | (refine' Dr.keep (by assumption) _ _ (by assumption) ?hq; (case hq => walk_at "hp"))
  | (refine' (show Same _ _ by assumption) _ _ ?hq; (case hq => walk_at "hp"))
  | (refine' RatAt.same (by assumption) ?hq; (case hq => walk_at "hp"))
  | (refine' Num.same (by assumption) ?hq; (case hq => walk_at "hp")))
local macro_rules | `(tactic| walk_at "sm") => `(tactic| first
  | assumption
  | exact Same.refl _
  | (refine' Same.kl (by assumption) (by assumption) ?aa; (case aa => walk_at "sm"))
  | (refine' Same.trans ?aa (by assumption); (case aa => walk_at "sm")))
local macro_rules | `(tactic| walk_at "dr") => `(tactic| first
  | assumption
  | (refine' Dr.same ?aa (by assumption); (case aa => walk_at "dr"))
  | (refine' Dr.trans ?aa (by assumption); (case aa => walk_at "dr")))

variable {W : Wd} {a : Ad}
theorem k_law_draw (T : Txt W.K W.mg a) : Cl W 1 "_law_draw" spDraw := by
  refine cl_of' T.d_law_draw sc_law_draw bd_law_draw (fun vs H Q E ⟨p, n, h, _⟩ => by rw [h]; rfl) fun f cdv A outer s H vs Q E hr h => ?_
  obtain ⟨p, n, rfl, hpot, hn, hz, q⟩ := h
  obtain ⟨a0, b0, hp, ok⟩ := _root_.id hpot
  refine ⟨_, (pss_cons (ps_if (pt_cmpR op_gt (pe_ix (r := rIx W.K) ix_U (pv 0) pe_int (fun _ _ => rfl)) pe_int (nomark _)) (pss_cons (ps_asg (pe_callB call_divmodU (by rfl) T.b_divmod (by decide +kernel) (pa_cons (pe_ix (r := rIx W.K) ix_U (pv 0) pe_int (fun _ _ => rfl)) (pa_cons (pv 1) pa_nil))) (pg_tupK (K := W.K) (n := 2) rfl rfl (pgs_cons (pg_sub (pv 0) pe_int set_list) (pgs_cons (pg_name (i := 2) sc_law_draw.nd rfl (Or.inl rfl)) pgs_nil)))) (pss_one (ps_ret (pv 2)))) pss_nil) (pss_cons (ps_asg (pe_op op_modU (pe_callTy call_int1U (by rfl) T.b_int (by decide +kernel) (pa_cons (pe_op op_addU (pe_op op_mulU (pe_ix (r := rIx W.K) ix_U (pv 0) pe_int (fun _ _ => rfl)) pe_int) pe_int) pa_nil)) pe_int) (pg_sub (pv 0) pe_int set_list)) (pss_one (ps_ret (pe_op op_modU (pe_callTy call_int1U (by rfl) T.b_int (by decide +kernel) (pa_cons (pe_op op_fdivU (pe_op op_modU (pe_callTy call_int1U (by rfl) T.b_int (by decide +kernel) (pa_cons (pe_op op_mulU (pe_ix (r := rIx W.K) ix_U (pv 0) pe_int (fun _ _ => rfl)) (pe_ix (r := rIx W.K) ix_U (pv 0) pe_int (fun _ _ => rfl))) pa_nil)) pe_int) pe_int) pa_nil)) (pv 1)))))), ?_⟩
  refine i_start (σ' := [some (V.ref p), some (V.int n), none]) rfl ?_
  repeat walk_at "rd"
  refine i_dec (fun h0 => ?_) (fun h0 => ?_)
  · repeat walk_at "rd"
    refine i_dm (cdivp hn hz) fun t H1 nt ht s1 => ?_
    refine ⟨t, _, rfl, SqT.of ht, rfl, _, _, rfl, ?_⟩
    repeat walk_at "rd"
    refine ⟨p, _, _, 0, rfl, rfl, s1 _ _ hp, rfl, _, _, rfl, ?_⟩
    repeat walk_at "rd"
    refine ⟨rfl, ?_⟩
    repeat walk_at "rd"
    refine q _ _ (Int.emod_nonneg _ (by omega)) (Int.emod_lt_of_pos _ hn) ⟨fun c o hc e => ?_, hpot, a0 / n, b0, upd_same, Int.ediv_nonneg ok.ha (by omega), ok.hb, ok.hc⟩
    rw [upd_ne hc]
    exact s1 _ _ e
  · repeat walk_at "rd"
    refine ⟨p, _, _, 1, rfl, rfl, hp, rfl, ?_⟩
    have hm := Int.emod_lt_of_pos (b0 * 48271 + 12161) (show (0 : Int) < 2147483587 by decide)
    have hm0 := Int.emod_nonneg (b0 * 48271 + 12161) (show (2147483587 : Int) ≠ 0 by decide)
    have ok2 : PotOk a0 ((b0 * 48271 + 12161) % 2147483587) := ⟨ok.ha, hm0, by omega⟩
    have hp2 : upd H p (HO.lst ([V.int a0, V.int b0].set 1 (V.int ((b0 * 48271 + 12161) % 2147483587)))) p = some (HO.lst [V.int a0, V.int ((b0 * 48271 + 12161) % 2147483587)]) := upd_same
    repeat walk_at "rd"
    · refine q _ _ (Int.emod_nonneg _ (by omega)) (Int.emod_lt_of_pos _ hn) ⟨fun c o hc e => ?_, hpot, _, _, hp2, ok2⟩
      rw [upd_ne hc]
      exact e
    · exact wide_mul (a := 31) (b := 16) (by have := ok.hb; have := ok.hc; omega) (by decide) (by decide) (by decide) (by decide)
    · exact wide_mul (a := 31) (b := 31) (by have := ok2.hb; have := ok2.hc; omega) (by have := ok2.hb; have := ok2.hc; omega) (by decide) (by decide) (by decide)
    · exact wide_div (b := 4) (by decide) (by decide) (by decide) (by decide)
theorem k_law_pick (T : Txt W.K W.mg a) : Cl W 2 "_law_pick" spPick := by
  refine cl_of' T.d_law_pick sc_law_pick bd_law_pick (fun vs H Q E ⟨p, s, xs, h, _⟩ => by rw [h]; rfl) fun f cdv A outer s0 H vs Q E hr h => ?_
  obtain ⟨p, s, xs, rfl, hpot, hs, e, n, l, q⟩ := h
  have hpos : 0 < xs.length := List.length_pos_iff.mpr n
  refine ⟨_, (pss_one (ps_ret (pe_ix (r := rIx W.K) ix_U (pv 1) (pe_cl (k_law_draw T) hr (by decide) rfl (pa_cons (pv 0) (pa_cons (pe_callB (r := Ly.rLen W.K) call_lenU (by rfl) T.b_len (by decide +kernel) (pa_cons (pv 1) pa_nil)) pa_nil))) (fun _ _ => rfl)))), ?_⟩
  refine i_start (σ' := [some (V.ref p), some (V.ref s)]) rfl ?_
  repeat walk_at "rd"
  refine i_draw hpot (by omega) ?_ fun d H1 d0 d1 k => ?_
  · show ((xs.length : Int)).natAbs < 2 ^ 4000
    have : 2 ^ 10 ≤ 2 ^ 4000 := Nat.pow_le_pow_right (by decide) (by decide)
    omega
  have hlt : d.toNat < xs.length := by omega
  refine i_ix_l (xs := xs) (v := xs[d.toNat]) (k.keep _ _ hs e) ?_ ?_
  · have z := atI_nat (xs := xs) (j := d.toNat) (v := xs[d.toNat]) (by simp [hlt])
    rw [show ((d.toNat : Nat) : Int) = d by omega] at z
    exact z
  · exact q _ H1 (List.getElem_mem hlt) k
theorem k_law_pot (T : Txt W.K W.mg a) : Cl W 1 "_law_pot" (spPot W.K) := by
  refine cl_of' T.d_law_pot sc_law_pot bd_law_pot (fun vs H Q E ⟨s, ns, k, h, _⟩ => by rw [h]; rfl) fun f cdv A outer s0 H vs Q E hr h => ?_
  obtain ⟨s, ns, k, rfl, hs, k0, k1, q⟩ := h
  refine ⟨_, (pss_cons (ps_set (i := 2) sc_law_pot.nd rfl (Or.inl rfl) (pe_op op_addU (pe_op op_mulU pe_int (pv 1)) pe_int)) (pss_cons (ps_if (pt_cmpR op_lt (pv 1) (pe_callB (r := Ly.rLen W.K) call_lenU (by rfl) T.b_len (by decide +kernel) (pa_cons (pv 0) pa_nil)) (nomark _)) (pss_one (ps_set (i := 2) sc_law_pot.nd rfl (Or.inl rfl) (pe_callB call_absU (by rfl) T.b_abs (by decide +kernel) (pa_cons (pe_ix (r := rIx W.K) ix_U (pv 0) (pv 1) (fun _ _ => rfl)) pa_nil)))) pss_nil) (pss_one (ps_ret (pe_lst (pa_cons (pe_callB (call_max2U rfl) (by rfl) T.b_max (by decide +kernel) (pa_cons pe_int (pa_cons (pe_op op_subU (pv 2) (pe_op op_pow pe_int pe_int)) pa_nil))) (pa_cons (pe_op op_addU (pe_op op_modU (pe_op op_mulU (pe_callTy call_int1U (by rfl) T.b_int (by decide +kernel) (pa_cons (pe_op op_addU (pe_op op_modU (pe_callTy call_int1U (by rfl) T.b_int (by decide +kernel) (pa_cons (pv 2) pa_nil)) pe_int) pe_int) pa_nil)) (pe_op op_pow (pe_op op_addU (pe_op op_mulU pe_int (pv 1)) pe_int) pe_int)) pe_int) pe_int) pa_nil))))))), ?_⟩
  refine i_start (σ' := [some (V.ref s), some (V.int k), none]) rfl ?_
  have fin : ∀ c : Int, ∀ H1 : Hp, Same H H1 → ∀ p, H1 p = none → Q (.ref p) (upd H1 p (.lst [.int (if c - 10 ^ (18 : Int).toNat > 0 then c - 10 ^ (18 : Int).toNat else 0), .int ((c % 2147483549 + 7) * (2 * k + 3) ^ (3 : Int).toNat % 2147483477 + 1)])) := by
    intro c H1 s1 p np
    have m0 := Int.emod_nonneg ((c % 2147483549 + 7) * (2 * k + 3) ^ (3 : Int).toNat) (show (2147483477 : Int) ≠ 0 by decide)
    have m1 := Int.emod_lt_of_pos ((c % 2147483549 + 7) * (2 * k + 3) ^ (3 : Int).toNat) (show (0 : Int) < 2147483477 by decide)
    refine q p _ (s1.free np) (fun c o e => ?_) ⟨_, _, upd_same, by split <;> omega, by omega, by omega⟩
    rw [upd_ne (ne_of_none (s1 _ _ e) np)]
    exact s1 _ _ e
  have cm : CMulW 29 k := wide_mul (a := 5) (b := 7) (by decide) (by omega) (by decide) (by decide) (by decide)
  have cm2 : CMulW 2 k := wide_mul (a := 5) (b := 7) (by decide) (by omega) (by decide) (by decide) (by decide)
  have two : 2 ≤ sizeLine := by decide
  have fin2 : ∀ c : Int, rMkL [.int (if c - 10 ^ (18 : Int).toNat > 0 then c - 10 ^ (18 : Int).toNat else 0), .int ((c % 2147483549 + 7) * (2 * k + 3) ^ (3 : Int).toNat % 2147483477 + 1)] H Q := fun c => ⟨two, fin c H (Same.refl H)⟩
  have cp1 : CPow 10 18 := ⟨by decide, by decide, by decide⟩
  have cp2 : CPow (2 * k + 3) 3 := ⟨by decide, by decide, by omega⟩
  have cm3 : ∀ c : Int, CMulW (c % 2147483549 + 7) ((2 * k + 3) ^ (3 : Int).toNat) := fun c => by
    have m0 := Int.emod_nonneg c (show (2147483549 : Int) ≠ 0 by decide)
    have m1 := Int.emod_lt_of_pos c (show (0 : Int) < 2147483549 by decide)
    have z : Sz 8 (2 * k + 3) := by
      unfold Sz
      omega
    have z3 : Sz 24 ((2 * k + 3) ^ (3 : Int).toNat) := by
      have e : (2 * k + 3) ^ (3 : Int).toNat = (2 * k + 3) * (2 * k + 3) * (2 * k + 3) := by
        show (2 * k + 3) ^ 3 = _
        rw [Int.pow_succ, Int.pow_succ, Int.pow_succ, Int.pow_zero, Int.one_mul]
      rw [e]
      exact sz_mul (sz_mul z z) z
    exact cmul_sz (n := 32) (by unfold Sz; omega) z3
  repeat walk_at "rd"
  refine i_len_L hs ?_
  repeat walk_at "rd"
  refine i_dec (fun h0 => ?_) (fun h0 => ?_)
  · have hlt : k.toNat < ns.length := by
      rw [List.length_map] at h0
      omega
    repeat walk_at "rd"
    refine i_ix_L hs (v := .int ns[k.toNat]) ?_ ?_
    · have z := atI_nat (xs := ns.map V.int) (j := k.toNat) (v := .int ns[k.toNat]) (by simp [hlt])
      rw [show ((k.toNat : Nat) : Int) = k by omega] at z
      exact z
    repeat walk_at "rd"
    refine i_I cp1 ?_
    repeat walk_at "rd"
    refine i_I cp2 ?_
    repeat walk_at "rd"
    · exact fin2 _
    · exact cm2
    · exact cm3 _
  · repeat walk_at "rd"
    refine i_I cp1 ?_
    repeat walk_at "rd"
    refine i_I cp2 ?_
    repeat walk_at "rd"
    · exact fin2 _
    · exact cm2
    · exact cm3 _
  · exact cm
end Lw

namespace Ly
open PySem PySem.Spec PyProof.Rows L2
structure Nm (x : Str) : Prop where
  pos : 1 ≤ x.length
  len : x.length ≤ 8
  abc : ∀ c ∈ x.cps.toList, 97 ≤ c ∧ c ≤ 122
def spNamed : Sp := fun vs H Q _ => ∃ (p tk : Addr) (n : Int) (taken : List Str), vs = [.ref p, .int n, .ref tk] ∧ Pot H p ∧ tk ≠ p ∧ H tk = some (.lst (taken.map V.str)) ∧ 0 ≤ n ∧ n.toNat + taken.length < 100 ∧
  ∀ r H' (ys : List Str), H r = none → Dr p H H' → H' r = some (.lst (ys.map V.str)) → ys.length = n.toNat → ys.Nodup → (∀ y ∈ ys, Nm y ∧ y ∉ taken) → Q (.ref r) H'
theorem nodup_sub {α : Type} [DecidableEq α] : ∀ {L M : List α}, L.Nodup → (∀ x ∈ L, x ∈ M) → L.length ≤ M.length
  | [], _, _, _ => Nat.zero_le _
  | x :: L, M, h, k => by
    have hx : x ∈ M := k x (List.mem_cons_self ..)
    have hn := List.nodup_cons.mp h
    have e := List.length_erase_of_mem hx
    have p : 0 < M.length := List.length_pos_of_mem hx
    have ih := nodup_sub (M := M.erase x) hn.2 fun y hy => (List.mem_erase_of_ne (fun z => hn.1 (by rw [← z]; exact hy))).mpr (k y (List.mem_cons_of_mem _ hy))
    rw [List.length_cons]
    omega
def sp (x : Str) (i : Nat) : Str := x ++ ⟨#[97 + i % 26]⟩ ++ ⟨#[97 + i / 26]⟩
theorem sp_cps (x : Str) (i : Nat) : (sp x i).cps.toList = x.cps.toList ++ [97 + i % 26] ++ [97 + i / 26] := by
  unfold sp
  rw [app_toList, app_toList]
theorem sp_inj {x : Str} {i j : Nat} (h : sp x i = sp x j) : i = j := by
  have e := congrArg (fun z : Str => z.cps.toList) h
  simp only [sp_cps] at e
  have e1 := List.append_inj' e rfl
  have e2 := List.append_inj' e1.1 rfl
  have a1 := (List.cons.inj e1.2).1
  have a2 := (List.cons.inj e2.2).1
  omega
theorem sp_nodup (x : Str) (n : Nat) : ((List.range n).map (sp x)).Nodup := by
  unfold List.Nodup
  rw [List.pairwise_map]
  exact List.nodup_range.imp fun h e => h (sp_inj e)
/-- a value by its text -/
def sP (P : Str → Bool) : V → Bool
  | .str x => P x
  | _ => false
theorem filt_strs (P : Str → Bool) (L : List Str) : (L.map V.str).filter (sP P) = (L.filter P).map V.str := by
  induction L with
  | nil => rfl
  | cons x L ih =>
    by_cases h : P x = true
    · have h2 : sP P (V.str x) = true := h
      simp [h, h2, ih]
    · have h2 : ¬ sP P (V.str x) = true := h
      simp [h, h2, ih]
/-- a letter as a text -/
def Let (v : V) : Prop := ∃ c, v = .str ⟨#[c]⟩ ∧ 97 ≤ c ∧ c ≤ 122
theorem lets : ∀ (ys : List V), (∀ (i : Nat) (v : V), ys[i]? = some v → Let v) → ∃ cs : List Nat, ys = cs.map (fun c => V.str ⟨#[c]⟩) ∧ ∀ c ∈ cs, 97 ≤ c ∧ c ≤ 122
  | [], _ => ⟨[], rfl, fun c h => by cases h⟩
  | y :: ys, h => by
    obtain ⟨c, e, h1, h2⟩ := h 0 y rfl
    obtain ⟨cs, e2, h3⟩ := lets ys fun i v k => h (i + 1) v k
    refine ⟨c :: cs, by rw [e, e2]; rfl, fun d hd => ?_⟩
    rcases List.mem_cons.mp hd with rfl | hd
    · exact ⟨h1, h2⟩
    · exact h3 d hd
theorem join_lets (cs : List Nat) : (Txt.join ("" : Str) (cs.map fun c => (⟨#[c]⟩ : Str))).cps.toList = cs := by
  rw [TL.join_eq, show ("" : Str) = ⟨#[]⟩ by decide +kernel]
  induction cs with
  | nil => rfl
  | cons c cs ih =>
    rw [List.map_cons, PyProof.Rows.join_nil_cons, app_toList, ih]
    rfl
end Ly
namespace Lw
open PySem PySem.Spec PyProof.Rows L2 Ly
local macro_rules | `(tactic| walk_at "rd") => `(tactic| first
  | ((with_reducible refine' i_var ?hv ?_); (case hv => exact rfl))
  | with_reducible refine i_c ?_
  | with_reducible refine i_op ?_
  | with_reducible refine i_cons ?_
  | with_reducible refine i_nil ?_
  | with_reducible refine i_cb ?_
  | with_reducible refine i_call ?_
  | with_reducible refine i_I0 ?_
  | with_reducible refine i_add_i ?_
  | with_reducible refine i_sub_i ?_
  | with_reducible refine i_md_i (by first | decide | assumption) ?_
  | ((with_reducible refine' i_md_i ?c ?_); rotate_left)
  | ((with_reducible refine' i_mul_i ?c ?_); rotate_left)
  | with_reducible refine i_fd_i (by decide) ?_
  | ((with_reducible refine' i_fd_i ?c ?_); rotate_left)
  | with_reducible refine i_int ?_
  | with_reducible refine i_abs ?_
  | with_reducible refine i_max2 ?_
  | with_reducible refine i_min2 ?_
  | with_reducible refine i_gcd ?_
  | with_reducible refine i_seq ?_
  | with_reducible refine i_if ?_
  | with_reducible refine i_asg ?_
  | with_reducible refine i_ret ?_
  | with_reducible refine i_drop ?_
  | with_reducible refine i_next ?_
  | with_reducible refine i_un ?_
  | with_reducible refine i_U ?_
  | ((with_reducible refine i_gname ?_); dsimp only [List.set])
  | with_reducible refine i_test ?_
  | with_reducible refine i_not ?_
  | with_reducible refine i_tb ?_
  | with_reducible refine i_andV ?_
  | with_reducible refine i_orV ?_
  | with_reducible refine i_notV ?_
  | with_reducible refine i_ifx ?_
  | with_reducible refine i_ext ?_
  | with_reducible refine i_exf ?_
  | with_reducible refine i_exn ?_
  | with_reducible refine i_itt ?_
  | with_reducible refine i_itf ?_
  | with_reducible refine i_gsub ?_
  | with_reducible refine i_nt ?_
  | with_reducible refine i_tup ?_
  | with_reducible refine i_lst ?_
  | with_reducible refine i_nf ?_
  | with_reducible refine i_isint ?_
  | ((with_reducible refine' i_top ?r ?_); (case r => walk_at "hp"))
  | ((with_reducible refine' i_bot ?r ?_); (case r => walk_at "hp"))
  | with_reducible refine i_fld ?_
  | with_reducible refine i_sfld ?_
  | with_reducible refine i_pp ?_
  | with_reducible refine i_meth ?_
  | with_reducible refine i_smeth ?_
  | with_reducible refine i_make ?_
  | with_reducible refine i_sl ?_
  | with_reducible refine i_noPart ?_
  | with_reducible refine i_part ?_
  | with_reducible refine i_smethK ?_
  | with_reducible refine i_sk1 ?_
  | with_reducible refine i_makeK ?_
  | with_reducible refine i_methK ?_
  | with_reducible refine i_mk11 ?_
  | ((with_reducible refine' i_rmk ?r ?h1 ?h2 ?_); (case r => walk_at "hp"); (case h1 => decide +kernel); (case h2 => decide +kernel))
  | with_reducible refine i_tpar ?_
  | ((with_reducible refine i_rpar ?_); dsimp only [List.set])
  | with_reducible refine i_eq_s rfl ?_
  | with_reducible refine i_ne_s rfl ?_
  | ((with_reducible refine' i_rtop ?r ?c ?n ?_); (case r => walk_at "hp"); (case c => assumption); (case n => assumption))
  | ((with_reducible refine' i_rbot ?r ?c ?n ?_); (case r => walk_at "hp"); (case c => assumption); (case n => assumption))
  | ((with_reducible refine' i_rpp ?r ?_); (case r => walk_at "hp"))
  | ((with_reducible refine' i_rmeth ?r ?h1 ?h2 ?_); (case r => walk_at "hp"); (case h1 => decide +kernel); (case h2 => decide +kernel))
  | ((with_reducible refine' i_ix_l ?hp ?ha ?_); (case hp => walk_at "hp"); (case ha => exact rfl))
  | ((with_reducible refine' i_len_l ?hp ?_); (case hp => walk_at "hp"))
  | ((with_reducible refine' i_ix_f0 ?hp ?_); (case hp => walk_at "hp"))
  | ((with_reducible refine' i_ix_f1 ?hp ?_); (case hp => walk_at "hp"))
  | ((with_reducible refine' i_ix_t ?hp ?ha ?_); (case hp => walk_at "hp"); (case ha => exact rfl)))
local macro_rules | `(tactic| walk_at "hp") => `(tactic| first
  | assumption
  | exact upd_same
  | exact SqL.of (by assumption)
  | (refine' Dr.tup (by assumption) ?hq; (case hq => walk_at "hp"))
  | (refine' FrL.same (by assumption) ?hq; (case hq => walk_at "hp"))
  | (refine' FracAt.same (by assumption) ?hq; (case hq => walk_at "hp"))
  | (refine' FracAt.nl (by assumption) ?hq; (case hq => walk_at "hp"))
  | (refine' RatAt.nl (by assumption) ?hq; (case hq => walk_at "hp"))
  | (refine' Num.nl (by assumption) ?hq; (case hq => walk_at "hp"))
  | (refine' FracAt.pk (by assumption) ?hq; (case hq => walk_at "hp"))
  | (refine' RatAt.pk (by assumption) ?hq; (case hq => walk_at "hp"))
  | (refine' Num.pk (by assumption) ?hq; (case hq => walk_at "hp"))
  | (refine' Dr.keep (by assumption) _ _ (by assumption) ?hq; (case hq => walk_at "hp"))
  | (refine' (show Same _ _ by assumption) _ _ ?hq; (case hq => walk_at "hp"))
  | (refine' RatAt.same (by assumption) ?hq; (case hq => walk_at "hp"))
  | (refine' Num.same (by assumption) ?hq; (case hq => walk_at "hp")))
local macro_rules | `(tactic| walk_at "sm") => `(tactic| first
  | assumption
  | exact Same.refl _
  | (refine' Same.kl (by assumption) (by assumption) ?aa; (case aa => walk_at "sm"))
  | (refine' Same.trans ?aa (by assumption); (case aa => walk_at "sm")))
local macro_rules | `(tactic| walk_at "dr") => `(tactic| first
  | assumption
  | (refine' Dr.same ?aa (by assumption); (case aa => walk_at "dr"))
  | (refine' Dr.trans ?aa (by assumption); (case aa => walk_at "dr")))

variable {W : Wd} {a : Ad}
def abc : Str := "abcdefghijklmnopqrstuvwxyz"
theorem abc_len : abc.length = 26 := by decide +kernel
theorem abc_at (k : Nat) (h : k < 26) : abc.cps.toList[k]? = some (97 + k) := by
  have e : abc.cps.toList = (List.range 26).map (97 + ·) := by decide +kernel
  rw [e]
  simp [h]
def NJ (p l tk : Addr) (n : Int) (taken : List Str) (H : Hp) (i : Nat) (σ : L2.St) (H' : Hp) : Prop := ∃ (v1 v2 v3 v4 v5 : Option V) (ys : List Str), σ = [some (.ref p), some (.int n), some (.ref tk), v1, some (.str abc), some (.ref l), v2, v3, v4, v5] ∧ Dr p H H' ∧ H' l = some (.lst (ys.map V.str)) ∧ ys.length = i ∧ ys.Nodup ∧ ∀ y ∈ ys, Nm y ∧ y ∉ taken
theorem k_law_named (T : Txt W.K W.mg a) : Cl W 2 "_law_named" spNamed := by
  refine cl_of' T.d_law_named sc_law_named bd_law_named (fun vs H Q E ⟨p, tk, n, taken, h, _⟩ => by rw [h]; rfl) fun f cdv A outer s0 H vs Q E hr h => ?_
  obtain ⟨p, tk, n, taken, rfl, hp, ht, he, n0, hz, q⟩ := h
  refine ⟨_, (pss_cons (ps_asg (pe_tup (pa_cons pe_str (pa_cons (pe_lst pa_nil) pa_nil))) (pg_tupK (K := W.K) (n := 2) rfl rfl (pgs_cons (pg_name (i := 4) sc_law_named.nd rfl (Or.inr rfl)) (pgs_cons (pg_name (i := 5) sc_law_named.nd rfl (Or.inr rfl)) pgs_nil)))) (pss_cons (ps_for PassesOwn.never rfl (pi_range1 rfl T.b_range (pa_cons (pv 1) pa_nil)) (pg_name (i := 3) sc_law_named.nd rfl (Or.inl rfl)) (pss_cons (ps_set (i := 6) sc_law_named.nd rfl (Or.inr rfl) (pe_joinK (K := W.K) rfl pe_str (pe_lc (own := [("_law_turn", 8)]) (g := (gName 8)) (tt := tYes) rfl sc_law_named.nd (pi_range1 rfl T.b_range (pa_cons (pe_op op_addU pe_int (pe_cl (k_law_draw T) hr (by decide) rfl (pa_cons (pv 0) (pa_cons pe_int pa_nil)))) pa_nil)) (blkOk_by (N := N_law_named) (sc := defScope s_law_named) (by decide +kernel)) (fun _ _ _ _ _ => (pg_name (i := 8) sc_law_named.nd rfl (Or.inl rfl))) (fun _ _ _ _ _ => pts_nil) (fun _ _ _ _ _ => (pe_ix (r := rIx W.K) ix_U (pv 4) (pe_cl (k_law_draw T) hr (by decide) rfl (pa_cons (pv 0) (pa_cons pe_int pa_nil))) (fun _ _ => rfl)))))) (Evl.pss_cut (ps_if (PW.pt (pw_or (pt_cmpR (r := rIn W.K false) op_in_seq (pv 6) (pv 5) rfl) (pw_or1 (pt_cmpR (r := rIn W.K false) op_in_seq (pv 6) (pv 2) rfl)))) (pss_cons (ps_setLc (i := 7) (own := [("_law_turn", 8)]) (g := (gName 8)) (tt := tYes) rfl sc_law_named.nd rfl rfl (sw_true rfl rfl rfl (by decide +kernel)) (pi_range1 rfl T.b_range (pa_cons pe_int pa_nil)) (blkOk_by (N := N_law_named) (sc := defScope s_law_named) (by decide +kernel)) (fun _ _ _ _ _ => (pg_name (i := 8) sc_law_named.nd rfl (Or.inl rfl))) (fun _ _ _ _ _ => pts_nil) (fun _ _ _ _ _ => (pe_op op_addU (pe_op op_addU (pv 6) (pe_ix (r := rIx W.K) ix_U (pv 4) (pe_op op_modU (pv 8) pe_int) (fun _ _ => rfl))) (pe_ix (r := rIx W.K) ix_U (pv 4) (pe_op op_fdivU (pv 8) pe_int) (fun _ _ => rfl))))) (pss_one (ps_set (i := 6) sc_law_named.nd rfl (Or.inr rfl) (pe_ix (r := rIx W.K) ix_U (pe_lc (own := [("_law_near", 9)]) (g := (gName 9)) (tt := _) rfl sc_law_named.nd (pi_listK (K := W.K) rfl (pv 7)) (blkOk_by (N := N_law_named) (sc := defScope s_law_named) (by decide +kernel)) (fun _ _ _ _ _ => (pg_name (i := 9) sc_law_named.nd rfl (Or.inl rfl))) (fun _ _ _ _ _ => (pts_one (PW.pt (pw_and (pt_cmpR (r := rIn W.K true) op_notIn_seq (pv 9) (pv 5) rfl) (pw_and1 (pt_cmpR (r := rIn W.K true) op_notIn_seq (pv 9) (pv 2) rfl)))))) (fun _ _ _ _ _ => (pv 9))) pe_int (fun _ _ => rfl))))) pss_nil) (pss_one (ps_expr (pe_bmK (K := W.K) rfl PySem.F.plainAttrs_list PySem.F.slot_list_append PySem.F.type_list_append mt_append (pv 5) (pa_cons (pv 6) pa_nil))))))) (pss_one (ps_ret (pv 5))))), ?_⟩
  refine i_start (σ' := [some (V.ref p), some (V.int n), some (V.ref tk), none, none, none, none, none, none, none]) rfl ?_
  repeat walk_at "rd"
  refine i_mkL (by decide) fun l H1 nl hl s1 => ?_
  repeat walk_at "rd"
  refine i_mkT2 fun t H2 _ ht2 s2 => ?_
  refine ⟨t, _, rfl, SqT.of ht2, rfl, _, _, rfl, ?_⟩
  repeat walk_at "rd"
  refine ⟨_, _, rfl, ?_⟩
  repeat walk_at "rd"
  refine ⟨rfl, ?_⟩
  repeat walk_at "rd"
  have np : l ≠ p := fresh_ne hp nl
  have hl2 := s2 _ _ hl
  have k0 : Dr p H H2 := Dr.of (s1.trans s2) hp
  refine i_for ?_
  repeat walk_at "rd"
  refine i_rfor n0 (by omega) (NJ p l tk n taken H) ⟨_, _, _, _, _, [], rfl, k0, hl2, rfl, List.nodup_nil, fun y h => by cases h⟩ ?_ ?_
  · clear hl2 k0 hl ht2 s1 s2
    rintro i σ' H3 hi ⟨v1, v2, v3, v4, v5, ys, rfl, k3, h3, hy, nd, ok⟩
    dsimp only [List.set]
    repeat walk_at "rd"
    refine i_tM1 ?_
    repeat walk_at "rd"
    refine ⟨⟨_, rfl⟩, ?_⟩
    refine i_lcr ?_
    repeat walk_at "rd"
    refine i_draw k3.pot' (by decide) (sz_lit (by decide)) fun d H4 d0 d1 k4 => ?_
    repeat walk_at "rd"
    refine i_rlcRp (p := p) (fun _ _ v => Let v) k4.pot' (by omega) (by omega) (fun _ _ _ _ _ g => g) (fun x => rfl) ?_ ?_
    · intro j H5 Q' hj k5 q'
      dsimp only [List.map, wipe, List.set]
      repeat walk_at "rd"
      refine i_draw k5.pot' (by decide) (sz_lit (by decide)) fun e H6 e0 e1 k6 => ?_
      repeat walk_at "rd"
      obtain ⟨e, rfl⟩ : ∃ k : Nat, e = (k : Int) := ⟨e.toNat, by omega⟩
      refine i_ixS (by rw [abc_len]; decide) (abc_at e (by omega)) ?_
      exact q' _ H6 k6 ⟨97 + e, rfl, by omega, by omega⟩
    intro r H5 zs nr k5 hr' hzl g
    obtain ⟨cs, rfl, hcs⟩ := lets zs g
    rw [List.length_map] at hzl
    have er : cs.map (fun c => V.str ⟨#[c]⟩) = (cs.map fun c => (⟨#[c]⟩ : Str)).map V.str := by
      rw [List.map_map]
      rfl
    rw [er] at hr'
    have jl := join_lets cs
    have sumL : ∀ l : List Nat, ((l.map fun c => (⟨#[c]⟩ : Str)).map (·.length)).sum = l.length := fun l => by
      induction l with
      | nil => rfl
      | cons c l ih =>
        rw [List.map_cons, List.map_cons, List.sum_cons, ih, List.length_cons, Nat.add_comm]
        rfl
    refine i_join hr' ?_ ?_
    · rw [sumL, List.length_map, show ("" : Str).length = 0 by decide +kernel]
      omega
    generalize Txt.join ("" : Str) (cs.map fun c => (⟨#[c]⟩ : Str)) = lb at jl ⊢
    have lbl : lb.length = cs.length := by
      show lb.cps.size = _
      rw [← Array.length_toList, jl]
    have kk : Dr p H H5 := (k3.trans k4).trans k5
    have h5 : H5 l = some (.lst (ys.map V.str)) := k5.keep _ _ np (k4.keep _ _ np h3)
    clear k3 k4 k5 h3 hr' er g
    have t5 : H5 tk = some (.lst (taken.map V.str)) := kk.keep _ _ ht he
    repeat walk_at "rd"
    refine ⟨fun σ' H6 => ∃ (w2 w3 w4 : Option V) (z : Str), σ' = [some (.ref p), some (.int n), some (.ref tk), some (.int i), some (.str abc), some (.ref l), some (.str z), w2, w3, w4] ∧ Dr p H H6 ∧ H6 l = some (.lst (ys.map V.str)) ∧ Nm z ∧ z ∉ ys ∧ z ∉ taken, ?_, ?_⟩
    · repeat walk_at "rd"
      refine i_orB (b := decide (lb ∈ ys)) (c := decide (lb ∈ taken)) (fun R hR => ?_) (fun R hR => ?_) ?_
      · repeat walk_at "rd"
        exact i_inS h5 ⟨_, rfl, hR⟩
      · repeat walk_at "rd"
        exact i_inS t5 ⟨_, rfl, hR⟩
      have nml : Nm lb := ⟨by omega, by omega, by rw [jl]; exact hcs⟩
      refine i_bor ?_ (fun h1 h2 => ?_)
      · repeat walk_at "rd"
        refine i_lcr ?_
        repeat walk_at "rd"
        refine i_rlcRF (fun i => .str (sp lb i)) (by decide) (by decide) (fun x => rfl) ?_ ?_
        · intro j H6 Q' hj s6 q'
          dsimp only [List.map, wipe, List.set]
          have l1 : ∀ k : Nat, (⟨#[k]⟩ : Str).length = 1 := fun _ => rfl
          have m1 : ((j : Int) % 26) = ((j % 26 : Nat) : Int) := by omega
          have m2 : ((j : Int) / 26) = ((j / 26 : Nat) : Int) := by omega
          repeat walk_at "rd"
          rw [m1]
          refine i_ixS (by rw [abc_len]; decide) (abc_at _ (by omega)) ?_
          repeat walk_at "rd"
          refine i_add_s (sl_of (by rw [l1]; omega)) ?_
          repeat walk_at "rd"
          · rw [m2]
            refine i_ixS (by rw [abc_len]; decide) (abc_at _ (by omega)) ?_
            refine i_add_s (sl_of (by rw [app_len, l1, l1]; omega)) ?_
            exact q' _ (Same.refl _)
          · exact ⟨by decide, by decide⟩
        intro r6 H6 n6 s6 h6
        have e6 : (List.range (100 : Int).toNat).map (fun i => V.str (sp lb i)) = ((List.range 100).map (sp lb)).map V.str := by
          rw [List.map_map]
          rfl
        rw [e6] at h6
        repeat walk_at "rd"
        refine i_lcl ?_
        repeat walk_at "rd"
        refine i_rlcF (sP fun x => !decide (x ∈ ys) && !decide (x ∈ taken)) _root_.id (SqL.of h6) (fun H' s => SqL.of (s _ _ h6)) (by simp) (fun x => rfl) ?_ ?_ ?_
        · intro x H7 R hx s7 hR
          obtain ⟨y, _, rfl⟩ := List.mem_map.mp hx
          dsimp only [List.map, wipe, List.set]
          refine i_andB (b := !decide (y ∈ ys)) (c := !decide (y ∈ taken)) (fun R hR => ?_) (fun R hR => ?_) hR
          · repeat walk_at "rd"
            exact i_niS (s7 _ _ (s6 _ _ h5)) ⟨_, rfl, hR⟩
          · repeat walk_at "rd"
            exact i_niS (s7 _ _ (s6 _ _ t5)) ⟨_, rfl, hR⟩
        · intro x H7 Q' hx hP s7 q'
          dsimp only [List.map, wipe, List.set]
          repeat walk_at "rd"
          exact q' _ (Same.refl _)
        intro r7 H7 n7 s7 h7
        rw [List.map_id, filt_strs] at h7
        obtain ⟨z, zs, ez⟩ : ∃ z zs, ((List.range 100).map (sp lb)).filter (fun x => !decide (x ∈ ys) && !decide (x ∈ taken)) = z :: zs := by
          apply List.exists_cons_of_ne_nil
          intro e0
          have all : ∀ x ∈ (List.range 100).map (sp lb), x ∈ ys ++ taken := by
            intro x hx
            by_cases h : (!decide (x ∈ ys) && !decide (x ∈ taken)) = true
            · have : x ∈ ((List.range 100).map (sp lb)).filter (fun x => !decide (x ∈ ys) && !decide (x ∈ taken)) := List.mem_filter.mpr ⟨hx, h⟩
              rw [e0] at this
              cases this
            · rw [List.mem_append]
              by_cases h1 : x ∈ ys
              · exact .inl h1
              · by_cases h2 : x ∈ taken
                · exact .inr h2
                · exact absurd (by simp [h1, h2]) h
          have := nodup_sub (sp_nodup lb 100) all
          rw [List.length_map, List.length_range, List.length_append] at this
          omega
        have hz1 := List.mem_filter.mp (show z ∈ ((List.range 100).map (sp lb)).filter (fun x => !decide (x ∈ ys) && !decide (x ∈ taken)) by rw [ez]; exact List.mem_cons_self ..)
        rw [ez] at h7
        obtain ⟨j, hj, rfl⟩ := List.mem_map.mp hz1.1
        have hj2 := List.mem_range.mp hj
        have hb := Bool.and_eq_true_iff.mp hz1.2
        have nmz : Nm (sp lb j) := by
          have e := sp_cps lb j
          have le : (sp lb j).length = lb.length + 2 := by
            show (sp lb j).cps.size = _
            rw [← Array.length_toList, e, List.length_append, List.length_append, jl, lbl]
            rfl
          refine ⟨by omega, by omega, fun c hc => ?_⟩
          rw [e, List.mem_append, List.mem_append] at hc
          rcases hc with (hc | hc) | hc
          · exact nml.abc c hc
          · rw [List.mem_singleton] at hc
            omega
          · rw [List.mem_singleton] at hc
            omega
        repeat walk_at "rd"
        refine i_ix_l (v := V.str (sp lb j)) h7 (atI_nat (j := 0) rfl) ?_
        repeat walk_at "rd"
        exact ⟨_, _, _, _, rfl, (kk.same s6).same s7, s7 _ _ (s6 _ _ h5), nmz, by simpa using hb.1, by simpa using hb.2⟩
      · repeat walk_at "rd"
        exact ⟨_, _, _, lb, rfl, kk, h5, nml, h1, h2⟩
    · rintro σ' H6 ⟨w2, w3, w4, z, rfl, k6, h6, nm, z1, z2⟩
      repeat walk_at "rd"
      refine i_tBM ?_
      repeat walk_at "rd"
      refine ⟨ty_lst h6, ?_⟩
      repeat walk_at "rd"
      refine i_append h6 (by rw [List.length_map]; omega) fun H7 n7 k7 h7 => ?_
      repeat walk_at "rd"
      refine ⟨_, _, _, _, _, ys ++ [z], rfl, ?_, ?_, ?_, ?_, ?_⟩
      · refine ⟨fun c o nc e => k7 c o (fun w => by rw [w, nl] at e; cases e) (k6.keep c o nc e), hp, ?_⟩
        obtain ⟨a1, b1, e, ok2⟩ := k6.pot'
        exact ⟨a1, b1, k7 p _ (fun w => np w.symm) e, ok2⟩
      · rw [List.map_append]
        exact h7
      · rw [List.length_append, hy]
        rfl
      · rw [List.nodup_append]
        exact ⟨nd, by simp, fun x hx y hy' e => z1 (by rw [List.mem_singleton] at hy'; rw [← hy', ← e]; exact hx)⟩
      · intro y hy'
        rcases List.mem_append.mp hy' with h | h
        · exact ok y h
        · rw [List.mem_singleton] at h
          rw [h]
          exact ⟨nm, z2⟩
  · rintro σ' H3 ⟨v1, v2, v3, v4, v5, ys, rfl, k3, h3, hy, nd, ok⟩
    repeat walk_at "rd"
    exact q l H3 ys nl k3 h3 hy nd ok
end Lw

namespace Ly
open PySem PySem.Spec PyProof.Rows L2
/-! ### moves in the heap -/
def mflds (tp : Addr) : List (Str × V) := [("_names", .ref tp)]
def MvAt (C : Addr) (H : Hp) (a : Addr) (k : T3) : Prop := ∃ dx tp, H a = some (.ins C dx (mflds tp)) ∧ TripAt H tp k
theorem MvAt.same {C a : Addr} {H H' : Hp} {k : T3} (r : MvAt C H a k) (s : Same H H') : MvAt C H' a k := by
  obtain ⟨dx, tp, e, t⟩ := r
  exact ⟨dx, tp, s _ _ e, t.same s⟩
theorem MvAt.nl {C a : Addr} {H H' : Hp} {k : T3} (r : MvAt C H a k) (s : NL H H') : MvAt C H' a k := by
  obtain ⟨dx, tp, e, t⟩ := r
  exact ⟨dx, tp, s _ _ (fun a z => by cases z) e, t.nl s⟩
theorem mflds_no (tp : Addr) {m : Str} (h1 : ¬ m = "_names") : (mflds tp).lookup m = none := by
  have e1 : (m == ("_names" : Str)) = false := by simpa using h1
  unfold mflds
  simp [List.lookup, e1]
theorem mflds_at (tp : Addr) : (mflds tp).lookup ("_names" : Str) = some (.ref tp) := by
  unfold mflds
  simp [List.lookup]
structure OkM (k : T3) : Prop where
  a : Nm k.1
  b : Nm k.2.1
  c : Nm k.2.2
  n : k.2.2 ≠ k.2.1
theorem Nm.ok {x : Str} (n : Nm x) : PyData.strOk x = true := by
  unfold PyData.strOk
  rw [Array.all_eq_true']
  intro c hc
  have := n.abc c (Array.mem_toList_iff.mpr hc)
  exact decide_eq_true (by omega)
theorem OkM.ok {k : T3} (h : OkM k) : Ok3 k := ⟨h.a.ok, h.b.ok, h.c.ok⟩
theorem OkM.back {k : T3} (h : OkM k) : OkM (k.1, k.2.2, k.2.1) := ⟨h.a, h.c, h.b, fun z => h.n z.symm⟩
section
variable {H : Hp} {Q : VK} {E : XK} {C : Addr} {k l : T3} {K : PySem.W.Frag} {x y : Addr} {v : V}
def spNm : Sp := fun vs H Q _ => ∃ x : Str, vs = [.str x] ∧ Nm x ∧ ∀ H', Same H H' → Q (.bl true) H'
theorem i_nm {x : Str} (n : Nm x) (q : ∀ H', Same H H' → Q (.bl true) H') : spNm [.str x] H Q E := ⟨x, rfl, n, q⟩
def spMInit (C : Addr) : Sp := fun vs H Q _ => ∃ (x dx : Addr) (k : T3), vs = [.ref x, .str k.1, .str k.2.1, .str k.2.2] ∧ H x = some (.ins C dx []) ∧ OkM k ∧ ∀ H' tp, H' x = some (.ins C dx (mflds tp)) → TripAt H' tp k → (∀ c o, c ≠ x → H c = some o → H' c = some o) → Q .non H'
theorem i_mkM (o : OkM k) (q : ∀ x H', H x = none → Same H H' → MvAt C H' x k → Q (.ref x) H') : rMake C (spMInit C) [] [.str k.1, .str k.2.1, .str k.2.2] H Q := by
  intro x dx nx nd ne
  refine ⟨x, dx, k, rfl, upd_same, o, fun H' tp h1 h2 h3 => ⟨rfl, ?_⟩⟩
  refine q x H' nx (fun c o e => h3 c o (ne_of_none e nx) ?_) ⟨dx, tp, h1, h2⟩
  rw [upd_ne (ne_of_none e nx), upd_ne (ne_of_none e nd)]
  exact e
/-- an attribute that is read -/
theorem i_mfld (r : MvAt C H x k) (c : Cls K C) (n : NoAttr K C "_names") (q : ∀ tp, TripAt H tp k → Q (.ref tp) H) : rFld K "_names" (.ref x) H Q := by
  obtain ⟨dx, tp, e, t⟩ := r
  exact ⟨x, C, dx, _, _, rfl, e, c, n, mflds_at tp, q tp t⟩
def spMf (C : Addr) (f : T3 → Str) : Sp := fun vs H Q _ => ∃ (x : Addr) (k : T3), vs = [.ref x] ∧ MvAt C H x k ∧ Q (.str (f k)) H
theorem i_mpp {f : T3 → Str} (r : MvAt C H x k) (q : Q (.str (f k)) H) : rPp C (spMf C f) (.ref x) H Q := by
  obtain ⟨dx, tp, e, t⟩ := id r
  exact ⟨x, dx, _, rfl, e, x, k, rfl, r, q⟩
def spMcmp (C : Addr) (r : Str → Str → Bool) (z : Nat → Nat → Bool) : Sp := fun vs H Q _ => ∃ (x y : Addr) (k l : T3), vs = [.ref x, .ref y] ∧ MvAt C H x k ∧ MvAt C H y l ∧ Q (.bl (lexS r z [k.1, k.2.1, k.2.2] [l.1, l.2.1, l.2.2])) H
theorem i_mcmp {r : Str → Str → Bool} {z : Nat → Nat → Bool} (h1 : MvAt C H x k) (h2 : MvAt C H y l) (q : Q (.bl (lexS r z [k.1, k.2.1, k.2.2] [l.1, l.2.1, l.2.2])) H) : rOwn2 C (spMcmp C r z) (.ref x) (.ref y) H Q := by
  obtain ⟨dx, tp, e, t⟩ := id h1
  obtain ⟨dy, tq, e2, t2⟩ := id h2
  exact ⟨x, y, dx, dy, _, _, rfl, rfl, e, e2, x, y, k, l, rfl, h1, h2, q⟩
/-- == beside a move, beside another kind -/
def spMeq (K : PySem.W.Frag) (C : Addr) : Sp := fun vs H Q _ => ∃ (x : Addr) (k : T3) (v : V), vs = [.ref x, v] ∧ MvAt C H x k ∧ ((∃ y l, v = .ref y ∧ MvAt C H y l ∧ Ok3 k ∧ Ok3 l ∧ Q (.bl (decide (k = l))) H) ∨ ∃ T, TyX K H v (.type T) ∧ PySem.W.kitOne K (.type T) (.ref C) = some false ∧ Q (.bl false) H)
theorem i_meq (h1 : MvAt C H x k) (h2 : MvAt C H y l) (o : Ok3 k) (o2 : Ok3 l) (q : Q (.bl (decide (k = l))) H) : rEqNum C (spMeq K C) (.ref x) (.ref y) H Q := by
  obtain ⟨dx, tp, e, t⟩ := id h1
  obtain ⟨dy, tq, e2, t2⟩ := id h2
  exact .inl ⟨x, dx, _, rfl, e, .inl ⟨y, dy, _, rfl, e2⟩, x, k, _, rfl, h1, .inl ⟨y, l, rfl, h2, o, o2, q⟩⟩
theorem i_mne (h1 : MvAt C H x k) (h2 : MvAt C H y l) (o : Ok3 k) (o2 : Ok3 l) (q : Q (.bl (!decide (k = l))) H) : rNeNum C (spMeq K C) (.ref x) (.ref y) H Q := by
  obtain ⟨dx, tp, e, t⟩ := id h1
  obtain ⟨dy, tq, e2, t2⟩ := id h2
  exact .inl ⟨x, dx, _, rfl, e, .inl ⟨y, dy, _, rfl, e2⟩, x, k, _, rfl, h1, .inl ⟨y, l, rfl, h2, o, o2, _, rfl, q⟩⟩
theorem i_meqT {T : String} (h1 : MvAt C H x k) (ty : TyX K H v (.type T)) (s : PySem.W.subIn K (.type T) (.ref C) = some false) (o : PySem.W.kitOne K (.type T) (.ref C) = some false) (q : Q (.bl false) H) : rEqOwnT K C (spMeq K C) id (.ref x) v H Q := by
  obtain ⟨dx, tp, e, t⟩ := id h1
  exact ⟨x, dx, _, T, rfl, e, ty, s, x, k, v, rfl, h1, .inr ⟨T, ty, o, false, rfl, q⟩⟩
theorem i_mneT {T : String} (h1 : MvAt C H x k) (ty : TyX K H v (.type T)) (s : PySem.W.subIn K (.type T) (.ref C) = some false) (o : PySem.W.kitOne K (.type T) (.ref C) = some false) (q : Q (.bl true) H) : rEqOwnT K C (spMeq K C) not (.ref x) v H Q := by
  obtain ⟨dx, tp, e, t⟩ := id h1
  exact ⟨x, dx, _, T, rfl, e, ty, s, x, k, v, rfl, h1, .inr ⟨T, ty, o, false, rfl, q⟩⟩
def spMneg (C : Addr) : Sp := fun vs H Q _ => ∃ (x : Addr) (k : T3), vs = [.ref x] ∧ MvAt C H x k ∧ OkM k ∧ ∀ r H', H r = none → Same H H' → MvAt C H' r (k.1, k.2.2, k.2.1) → Q (.ref r) H'
theorem i_mneg (r : MvAt C H x k) (o : OkM k) (q : ∀ r H', H r = none → Same H H' → MvAt C H' r (k.1, k.2.2, k.2.1) → Q (.ref r) H') : uOwn C (spMneg C) (.ref x) H Q := by
  obtain ⟨dx, tp, e, t⟩ := id r
  exact ⟨x, dx, _, rfl, e, x, k, rfl, r, o, q⟩
def mStr (k : T3) : Str := k.1 ++ (": " : Str) ++ k.2.1 ++ (" to " : Str) ++ k.2.2
def mRep (k : T3) : Str := ("Move(" : Str) ++ reprText k.1 ++ (", " : Str) ++ reprText k.2.1 ++ (", " : Str) ++ reprText k.2.2 ++ (")" : Str)
def spMtx (C : Addr) (f : T3 → Str) : Sp := fun vs H Q _ => ∃ (x : Addr) (k : T3), vs = [.ref x] ∧ MvAt C H x k ∧ OkM k ∧ Q (.str (f k)) H
theorem i_mtx {f : T3 → Str} (r : MvAt C H x k) (o : OkM k) (q : Q (.str (f k)) H) : rSOwn C (spMtx C f) [.ref x] H Q := by
  obtain ⟨dx, tp, e, t⟩ := id r
  exact ⟨x, dx, _, rfl, e, x, k, rfl, r, o, ⟨_, rfl⟩, q⟩
end
end Ly
namespace Lw
open PySem PySem.Spec PyProof.Rows L2 Ly
local macro_rules | `(tactic| walk_at "rd") => `(tactic| first
  | ((with_reducible refine' i_var ?hv ?_); (case hv => exact rfl))
  | with_reducible refine i_c ?_
  | with_reducible refine i_op ?_
  | with_reducible refine i_cons ?_
  | with_reducible refine i_nil ?_
  | with_reducible refine i_cb ?_
  | with_reducible refine i_call ?_
  | with_reducible refine i_I0 ?_
  | with_reducible refine i_add_i ?_
  | with_reducible refine i_sub_i ?_
  | with_reducible refine i_md_i (by first | decide | assumption) ?_
  | ((with_reducible refine' i_md_i ?c ?_); rotate_left)
  | ((with_reducible refine' i_mul_i ?c ?_); rotate_left)
  | with_reducible refine i_fd_i (by decide) ?_
  | ((with_reducible refine' i_fd_i ?c ?_); rotate_left)
  | with_reducible refine i_int ?_
  | with_reducible refine i_abs ?_
  | with_reducible refine i_max2 ?_
  | with_reducible refine i_min2 ?_
  | with_reducible refine i_gcd ?_
  | with_reducible refine i_seq ?_
  | with_reducible refine i_if ?_
  | with_reducible refine i_asg ?_
  | with_reducible refine i_ret ?_
  | with_reducible refine i_drop ?_
  | with_reducible refine i_next ?_
  | with_reducible refine i_un ?_
  | with_reducible refine i_U ?_
  | ((with_reducible refine i_gname ?_); dsimp only [List.set])
  | with_reducible refine i_test ?_
  | with_reducible refine i_not ?_
  | with_reducible refine i_or ?_
  | with_reducible refine i_and ?_
  | with_reducible refine i_tb ?_
  | with_reducible refine i_andV ?_
  | with_reducible refine i_orV ?_
  | with_reducible refine i_notV ?_
  | with_reducible refine i_ifx ?_
  | with_reducible refine i_ext ?_
  | with_reducible refine i_exf ?_
  | with_reducible refine i_exn ?_
  | with_reducible refine i_itt ?_
  | with_reducible refine i_itf ?_
  | with_reducible refine i_gsub ?_
  | with_reducible refine i_nt ?_
  | with_reducible refine i_tup ?_
  | with_reducible refine i_lst ?_
  | with_reducible refine i_nf ?_
  | with_reducible refine i_isint ?_
  | ((with_reducible refine' i_top ?r ?_); (case r => walk_at "hp"))
  | ((with_reducible refine' i_bot ?r ?_); (case r => walk_at "hp"))
  | with_reducible refine i_fld ?_
  | with_reducible refine i_sfld ?_
  | with_reducible refine i_pp ?_
  | with_reducible refine i_meth ?_
  | with_reducible refine i_smeth ?_
  | with_reducible refine i_make ?_
  | with_reducible refine i_sl ?_
  | with_reducible refine i_noPart ?_
  | with_reducible refine i_part ?_
  | with_reducible refine i_smethK ?_
  | with_reducible refine i_sk1 ?_
  | with_reducible refine i_makeK ?_
  | with_reducible refine i_methK ?_
  | with_reducible refine i_mk11 ?_
  | ((with_reducible refine' i_rmk ?r ?h1 ?h2 ?_); (case r => walk_at "hp"); (case h1 => decide +kernel); (case h2 => decide +kernel))
  | with_reducible refine i_tpar ?_
  | ((with_reducible refine i_rpar ?_); dsimp only [List.set])
  | with_reducible refine i_eq_s rfl ?_
  | with_reducible refine i_ne_s rfl ?_
  | ((with_reducible refine' i_rtop ?r ?c ?n ?_); (case r => walk_at "hp"); (case c => assumption); (case n => assumption))
  | ((with_reducible refine' i_rbot ?r ?c ?n ?_); (case r => walk_at "hp"); (case c => assumption); (case n => assumption))
  | ((with_reducible refine' i_rpp ?r ?_); (case r => walk_at "hp"))
  | ((with_reducible refine' i_rmeth ?r ?h1 ?h2 ?_); (case r => walk_at "hp"); (case h1 => decide +kernel); (case h2 => decide +kernel))
  | ((with_reducible refine' i_ix_l ?hp ?ha ?_); (case hp => walk_at "hp"); (case ha => exact rfl))
  | ((with_reducible refine' i_len_l ?hp ?_); (case hp => walk_at "hp"))
  | ((with_reducible refine' i_ix_f0 ?hp ?_); (case hp => walk_at "hp"))
  | ((with_reducible refine' i_ix_f1 ?hp ?_); (case hp => walk_at "hp"))
  | ((with_reducible refine' i_ix_t ?hp ?ha ?_); (case hp => walk_at "hp"); (case ha => exact rfl)))
local macro_rules | `(tactic| walk_at "hp") => `(tactic| first
  | assumption
  | exact upd_same
  | exact SqL.of (by assumption)
  | (refine' Dr.tup (by assumption) ?hq; (case hq => walk_at "hp"))
  | (refine' FrL.same (by assumption) ?hq; (case hq => walk_at "hp"))
  | (refine' FracAt.same (by assumption) ?hq; (case hq => walk_at "hp"))
  | (refine' FracAt.nl (by assumption) ?hq; (case hq => walk_at "hp"))
  | (refine' RatAt.nl (by assumption) ?hq; (case hq => walk_at "hp"))
  | (refine' Num.nl (by assumption) ?hq; (case hq => walk_at "hp"))
  | (refine' FracAt.pk (by assumption) ?hq; (case hq => walk_at "hp"))
  | (refine' RatAt.pk (by assumption) ?hq; (case hq => walk_at "hp"))
  | (refine' Num.pk (by assumption) ?hq; (case hq => walk_at "hp"))
  | (refine' Dr.keep (by assumption) _ _ (by assumption) ?hq; (case hq => walk_at "hp"))
  | (refine' (show Same _ _ by assumption) _ _ ?hq; (case hq => walk_at "hp"))
  | (refine' RatAt.same (by assumption) ?hq; (case hq => walk_at "hp"))
  | (refine' Num.same (by assumption) ?hq; (case hq => walk_at "hp")))
local macro_rules | `(tactic| walk_at "sm") => `(tactic| first
  | assumption
  | exact Same.refl _
  | (refine' Same.kl (by assumption) (by assumption) ?aa; (case aa => walk_at "sm"))
  | (refine' Same.trans ?aa (by assumption); (case aa => walk_at "sm")))
local macro_rules | `(tactic| walk_at "dr") => `(tactic| first
  | assumption
  | (refine' Dr.same ?aa (by assumption); (case aa => walk_at "dr"))
  | (refine' Dr.trans ?aa (by assumption); (case aa => walk_at "dr")))

local macro_rules | `(tactic| walk_at "rd") => `(tactic| first
  | ((with_reducible refine' i_mpp ?r ?_); (case r => walk_at "hp"))
  | with_reducible refine i_fmt ?_
  | with_reducible refine i_fmtR ?_
  | with_reducible refine i_forT ?_
  | with_reducible refine i_forL ?_
  | with_reducible refine i_forE ?_
  | with_reducible refine i_sl ?_
  | with_reducible refine i_noPart ?_
  | with_reducible refine i_part ?_
  | with_reducible refine i_tM1 ?_
  | with_reducible refine i_tBM ?_
  | with_reducible refine i_makeKg ?_
  | ((with_reducible refine' i_add_s ?hz ?_); (case hz => (refine sl_of ?_; (try simp only [app_len]); omega)))
  | with_reducible refine i_lct ?_
  | ((with_reducible refine' i_mtx ?r ?o ?_); (case r => walk_at "hp"); (case o => assumption)))
local macro_rules | `(tactic| walk_at "hp") => `(tactic| first
  | (refine' MvAt.same (by assumption) ?hq; (case hq => walk_at "sm"))
  | (refine' TripAt.same (by assumption) ?hq; (case hq => walk_at "sm"))
  | (refine' Trips.same (by assumption) ?hq; (case hq => walk_at "sm")))

variable {W : Wd} {a : Ad}
theorem k_is_name (T : Txt W.K W.mg a) : Cl W 1 "is_name" spNm := by
  refine cl_of' T.d_is_name sc_is_name bd_is_name (fun vs H Q E ⟨v, h, _⟩ => by rw [h]; rfl) fun f cdv A outer s H vs Q E hr h => ?_
  obtain ⟨x, rfl, n, q⟩ := h
  refine ⟨_, (pss_one (ps_ret (pe_and (pe_callB (r := rIsi W.K) call_isi (by rfl) T.b_isinstance (by decide +kernel) (pa_cons (pv 0) (pa_cons (pe_bltn (by rfl) T.b_str (by decide +kernel) (v := .ty "str") rfl) pa_nil))) (pe_and (pe_cmpR op_le (pe_callB (r := Ly.rLen W.K) call_lenU (by rfl) T.b_len (by decide +kernel) (pa_cons (pv 0) pa_nil)) pe_int (nomark _)) (pe_and (pe_bm0 PySem.F.plainAttrs_str PySem.F.slot_str_isascii PySem.F.type_str_isascii mt_isascii (pv 0)) (pe_and (pe_bm0 PySem.F.plainAttrs_str PySem.F.slot_str_isalpha PySem.F.type_str_isalpha mt_isalpha (pv 0)) (pe_one (pe_bm0 PySem.F.plainAttrs_str PySem.F.slot_str_islower PySem.F.type_str_islower mt_islower (pv 0))))))))), ?_⟩
  refine i_start (σ' := [some (V.str x)]) rfl ?_
  repeat walk_at "rd"
  refine i_isi (.base (.str x)) (by show kitB "str" "str" = some true; decide +kernel) ?_
  repeat walk_at "rd"
  have n1 := n.pos
  have n8 := n.len
  refine i_len_s (sl_of (by omega)) ?_
  refine i_c ?_
  refine i_I0 ⟨_, rfl, ?_⟩
  rw [decide_eq_true (show (x.length : Int) ≤ 8 by omega), if_pos rfl]
  refine i_name rfl ?_
  rw [decide_eq_true n1, List.all_eq_true.mpr (fun c m => (by
    have := n.abc c m
    unfold lowB
    rw [decide_eq_true this.1, decide_eq_true this.2]
    rfl : lowB c = true))]
  exact q H (Same.refl _)
theorem k_minit (T : Txt W.K W.mg a) : ∃ (f : Addr) (fd : FuncData), FunD W.K "__init__" "Move.__init__" (defArgs s_Move_init) (defBody s_Move_init) (defScope s_Move_init) [] [] f fd ∧ Mk W.K a.Move f ∧ FnOk W.P W.w W.K W.mg W.base CX0 2 f fd ["self", "task", "start", "goal"] (spMInit a.Move) := by
  obtain ⟨f, fd, F, M⟩ := T.d_Move_init.ex
  refine ⟨f, fd, F, M, F.ok sc_Move_init (fun vs H Q E ⟨x, dx, k, h, _⟩ => by rw [h]; rfl) fun cdv A outer s H vs Q E hr h => ?_⟩
  obtain ⟨x, dx, k, rfl, hx, ok, q⟩ := h
  refine ⟨_, PSs.nox (pss_cons (ps_for PassesOwn.never rfl (pi_tupK (K := W.K) rfl (pe_tup (pa_cons (pv 1) (pa_cons (pv 2) (pa_cons (pv 3) pa_nil))))) (pg_name (i := 4) sc_Move_init.nd rfl (Or.inl rfl)) (pss_one (ps_if (pt_not (pt_val (pe_cl (k_is_name T) hr (by decide) rfl (pa_cons (pv 4) pa_nil)))) (pss_one ps_never) pss_nil))) (pss_cons (ps_if (pt_cmpR (r := rEqU W.K) (op_eqU hr.units) (pv 3) (pv 2) (nomark _)) (pss_one ps_never) pss_nil) (pss_one (ps_fld (pv 0) (pe_tup (pa_cons (pv 1) (pa_cons (pv 2) (pa_cons (pv 3) pa_nil)))) rfl)))), ?_⟩
  refine i_start (σ' := [some (V.ref x), some (V.str k.1), some (V.str k.2.1), some (V.str k.2.2), none]) rfl ?_
  repeat walk_at "rd"
  refine i_mkT (by show 3 ≤ 1000; decide) fun t H1 nt ht s1 => ?_
  refine i_rforT (SqT.of ht) (fun _ σ H2 => ∃ v, σ = [some (V.ref x), some (V.str k.1), some (V.str k.2.1), some (V.str k.2.2), v] ∧ Same H1 H2) ⟨_, rfl, Same.refl _⟩ (fun i σ H2 _ ⟨_, _, s2⟩ => SqT.of (s2 _ _ ht)) ?_ ?_
  · rintro i z σ H2 hz ⟨v, rfl, s2⟩
    have hn : ∃ y : Str, z = V.str y ∧ Nm y := by
      match i, hz with
      | 0, hz => exact ⟨_, (Option.some.inj hz).symm, ok.a⟩
      | 1, hz => exact ⟨_, (Option.some.inj hz).symm, ok.b⟩
      | 2, hz => exact ⟨_, (Option.some.inj hz).symm, ok.c⟩
      | _ + 3, hz => cases hz
    obtain ⟨y, rfl, ny⟩ := hn
    repeat walk_at "rd"
    refine i_nm ny fun H3 s3 => ?_
    repeat walk_at "rd"
    exact ⟨_, rfl, s2.trans s3⟩
  · rintro σ H2 ⟨v, rfl, s2⟩
    repeat walk_at "rd"
    refine i_dec (fun e => (ok.n (V.str.inj e)).elim) (fun _ => ?_)
    repeat walk_at "rd"
    refine i_mkT (by show 3 ≤ 1000; decide) fun tp H3 ntp htp s3 => ?_
    repeat walk_at "rd"
    have hx3 : H3 x = some (.ins a.Move dx []) := s3 _ _ (s2 _ _ (s1 _ _ hx))
    refine ⟨x, a.Move, dx, [], rfl, hx3, T.o_Move.cls, T.n_Move_names, by decide, ?_⟩
    refine q _ tp upd_same ?_ fun c o hc e => ?_
    · have : tp ≠ x := fun z => by rw [z, s2 _ _ (s1 _ _ hx)] at ntp; cases ntp
      show upd _ _ _ tp = _
      rw [upd_ne this]
      exact htp
    · rw [upd_ne hc]
      exact s3 _ _ (s2 _ _ (s1 _ _ e))
theorem m_Move (T : Txt W.K W.mg a) : Mak W 2 "Move" a.Move (spMInit a.Move) [] := by
  obtain ⟨f, fd, F, M, ok⟩ := k_minit T
  exact ⟨f, fd, _, [], M, ok, T.o_Move.mg, F.bindsN bd_Move_init, .nil⟩
theorem mk_MoveK (T : Txt W.K W.mg a) : MakKg gR W 2 "Move" a.Move ["goal", "task", "start"] (spMInit a.Move) := by
  obtain ⟨f, fd, F, M, ok⟩ := k_minit T
  exact ⟨f, fd, _, M, ok, T.o_Move.mg, kbn_ofN (ps := ["self", "task", "start", "goal"]) F (fun h1 h2 => h1.append ((h2.drop 1).append (h2.take 1))) (fun kV doc pm an cdv ct us ws hl hw => match us, hl, ws, hw with | [_], _, [_, _, _], _ => rfl)⟩
theorem pp_task (T : Txt W.K W.mg a) : Pp W 1 a.Move "task" (spMf a.Move fun k => k.1) := by
  refine pp_of T.d_Move_task sc_Move_task bd_Move_task (fun vs H Q E ⟨x, k, h, _⟩ => by rw [h]; rfl) fun f cdv A outer s H vs Q E hr h => ?_
  obtain ⟨x, k, rfl, r, q⟩ := h
  refine ⟨_, (pss_one (ps_ret (pe_ix (r := rIx W.K) ix_U (pe_fld (pv 0) rfl) pe_int (fun _ _ => rfl)))), ?_⟩
  refine i_start (σ' := [some (V.ref x)]) rfl ?_
  repeat walk_at "rd"
  refine i_mfld r T.o_Move.cls T.n_Move_names fun tp t => ?_
  repeat walk_at "rd"
  exact q
theorem pp_start (T : Txt W.K W.mg a) : Pp W 1 a.Move "start" (spMf a.Move fun k => k.2.1) := by
  refine pp_of T.d_Move_start sc_Move_start bd_Move_start (fun vs H Q E ⟨x, k, h, _⟩ => by rw [h]; rfl) fun f cdv A outer s H vs Q E hr h => ?_
  obtain ⟨x, k, rfl, r, q⟩ := h
  refine ⟨_, (pss_one (ps_ret (pe_ix (r := rIx W.K) ix_U (pe_fld (pv 0) rfl) pe_int (fun _ _ => rfl)))), ?_⟩
  refine i_start (σ' := [some (V.ref x)]) rfl ?_
  repeat walk_at "rd"
  refine i_mfld r T.o_Move.cls T.n_Move_names fun tp t => ?_
  repeat walk_at "rd"
  exact q
theorem pp_goal (T : Txt W.K W.mg a) : Pp W 1 a.Move "goal" (spMf a.Move fun k => k.2.2) := by
  refine pp_of T.d_Move_goal sc_Move_goal bd_Move_goal (fun vs H Q E ⟨x, k, h, _⟩ => by rw [h]; rfl) fun f cdv A outer s H vs Q E hr h => ?_
  obtain ⟨x, k, rfl, r, q⟩ := h
  refine ⟨_, (pss_one (ps_ret (pe_ix (r := rIx W.K) ix_U (pe_fld (pv 0) rfl) pe_int (fun _ _ => rfl)))), ?_⟩
  refine i_start (σ' := [some (V.ref x)]) rfl ?_
  repeat walk_at "rd"
  refine i_mfld r T.o_Move.cls T.n_Move_names fun tp t => ?_
  repeat walk_at "rd"
  exact q
theorem mt_lt (T : Txt W.K W.mg a) : Mt W 1 a.Move "__lt__" (spMcmp a.Move ltS fun n m => decide (n < m)) := by
  refine mt_of T.d_Move_lt sc_Move_lt bd_Move_lt (fun vs H Q E ⟨x, y, k, l, h, _⟩ => by rw [h]; rfl) fun f cdv A outer s H vs Q E hr h => ?_
  obtain ⟨x, y, k, l, rfl, r, r2, q⟩ := h
  refine ⟨_, (pss_cons (ps_if (pt_not (pt_val (pe_callB (r := rIsi W.K) call_isi (by rfl) T.b_isinstance (by decide +kernel) (pa_cons (pv 1) (pa_cons (pe_gn (v := .ref a.Move) (by rfl) T.o_Move.mg rfl) pa_nil))))) (pss_one ps_never) pss_nil) (pss_one (ps_ret (pe_cmpR (op_ltTS hr.units0) (pe_fld (pv 0) rfl) (pe_fld (pv 1) rfl) (nomark _))))), ?_⟩
  refine i_start (σ' := [some (V.ref x), some (V.ref y)]) rfl ?_
  repeat walk_at "rd"
  obtain ⟨dy, tq, e2, t2⟩ := _root_.id r2
  refine i_isiO (b := true) (.base (.ins e2 T.o_Move.cls T.o_Move.cl (by with_unfolding_all rfl) (by with_unfolding_all rfl) T.o_Move.mo)) T.o_Move.kO ?_
  repeat walk_at "rd"
  refine i_mfld r T.o_Move.cls T.n_Move_names fun tp t => ?_
  repeat walk_at "rd"
  refine i_mfld r2 T.o_Move.cls T.n_Move_names fun tp2 t2 => ?_
  exact i_TS3 t t2 q
theorem mt_le (T : Txt W.K W.mg a) : Mt W 1 a.Move "__le__" (spMcmp a.Move leS fun n m => decide (n ≤ m)) := by
  refine mt_of T.d_Move_le sc_Move_le bd_Move_le (fun vs H Q E ⟨x, y, k, l, h, _⟩ => by rw [h]; rfl) fun f cdv A outer s H vs Q E hr h => ?_
  obtain ⟨x, y, k, l, rfl, r, r2, q⟩ := h
  refine ⟨_, (pss_cons (ps_if (pt_not (pt_val (pe_callB (r := rIsi W.K) call_isi (by rfl) T.b_isinstance (by decide +kernel) (pa_cons (pv 1) (pa_cons (pe_gn (v := .ref a.Move) (by rfl) T.o_Move.mg rfl) pa_nil))))) (pss_one ps_never) pss_nil) (pss_one (ps_ret (pe_cmpR (op_leTS hr.units0) (pe_fld (pv 0) rfl) (pe_fld (pv 1) rfl) (nomark _))))), ?_⟩
  refine i_start (σ' := [some (V.ref x), some (V.ref y)]) rfl ?_
  repeat walk_at "rd"
  obtain ⟨dy, tq, e2, t2⟩ := _root_.id r2
  refine i_isiO (b := true) (.base (.ins e2 T.o_Move.cls T.o_Move.cl (by with_unfolding_all rfl) (by with_unfolding_all rfl) T.o_Move.mo)) T.o_Move.kO ?_
  repeat walk_at "rd"
  refine i_mfld r T.o_Move.cls T.n_Move_names fun tp t => ?_
  repeat walk_at "rd"
  refine i_mfld r2 T.o_Move.cls T.n_Move_names fun tp2 t2 => ?_
  exact i_TS3 t t2 q
theorem mt_gt (T : Txt W.K W.mg a) : Mt W 1 a.Move "__gt__" (spMcmp a.Move gtS fun n m => decide (n > m)) := by
  refine mt_of T.d_Move_gt sc_Move_gt bd_Move_gt (fun vs H Q E ⟨x, y, k, l, h, _⟩ => by rw [h]; rfl) fun f cdv A outer s H vs Q E hr h => ?_
  obtain ⟨x, y, k, l, rfl, r, r2, q⟩ := h
  refine ⟨_, (pss_cons (ps_if (pt_not (pt_val (pe_callB (r := rIsi W.K) call_isi (by rfl) T.b_isinstance (by decide +kernel) (pa_cons (pv 1) (pa_cons (pe_gn (v := .ref a.Move) (by rfl) T.o_Move.mg rfl) pa_nil))))) (pss_one ps_never) pss_nil) (pss_one (ps_ret (pe_cmpR (op_gtTS hr.units0) (pe_fld (pv 0) rfl) (pe_fld (pv 1) rfl) (nomark _))))), ?_⟩
  refine i_start (σ' := [some (V.ref x), some (V.ref y)]) rfl ?_
  repeat walk_at "rd"
  obtain ⟨dy, tq, e2, t2⟩ := _root_.id r2
  refine i_isiO (b := true) (.base (.ins e2 T.o_Move.cls T.o_Move.cl (by with_unfolding_all rfl) (by with_unfolding_all rfl) T.o_Move.mo)) T.o_Move.kO ?_
  repeat walk_at "rd"
  refine i_mfld r T.o_Move.cls T.n_Move_names fun tp t => ?_
  repeat walk_at "rd"
  refine i_mfld r2 T.o_Move.cls T.n_Move_names fun tp2 t2 => ?_
  exact i_TS3 t t2 q
theorem mt_ge (T : Txt W.K W.mg a) : Mt W 1 a.Move "__ge__" (spMcmp a.Move geS fun n m => decide (n ≥ m)) := by
  refine mt_of T.d_Move_ge sc_Move_ge bd_Move_ge (fun vs H Q E ⟨x, y, k, l, h, _⟩ => by rw [h]; rfl) fun f cdv A outer s H vs Q E hr h => ?_
  obtain ⟨x, y, k, l, rfl, r, r2, q⟩ := h
  refine ⟨_, (pss_cons (ps_if (pt_not (pt_val (pe_callB (r := rIsi W.K) call_isi (by rfl) T.b_isinstance (by decide +kernel) (pa_cons (pv 1) (pa_cons (pe_gn (v := .ref a.Move) (by rfl) T.o_Move.mg rfl) pa_nil))))) (pss_one ps_never) pss_nil) (pss_one (ps_ret (pe_cmpR (op_geTS hr.units0) (pe_fld (pv 0) rfl) (pe_fld (pv 1) rfl) (nomark _))))), ?_⟩
  refine i_start (σ' := [some (V.ref x), some (V.ref y)]) rfl ?_
  repeat walk_at "rd"
  obtain ⟨dy, tq, e2, t2⟩ := _root_.id r2
  refine i_isiO (b := true) (.base (.ins e2 T.o_Move.cls T.o_Move.cl (by with_unfolding_all rfl) (by with_unfolding_all rfl) T.o_Move.mo)) T.o_Move.kO ?_
  repeat walk_at "rd"
  refine i_mfld r T.o_Move.cls T.n_Move_names fun tp t => ?_
  repeat walk_at "rd"
  refine i_mfld r2 T.o_Move.cls T.n_Move_names fun tp2 t2 => ?_
  exact i_TS3 t t2 q
theorem mt_eq (T : Txt W.K W.mg a) : Mt W 1 a.Move "__eq__" (spMeq W.K a.Move) := by
  refine mt_of T.d_Move_eq sc_Move_eq bd_Move_eq (fun vs H Q E ⟨x, k, v, h, _⟩ => by rw [h]; rfl) fun f cdv A outer s H vs Q E hr h => ?_
  obtain ⟨x, k, v, rfl, r, q⟩ := h
  refine ⟨_, (pss_cons (ps_if (pt_not (pt_val (pe_callB (r := rIsi W.K) call_isi (by rfl) T.b_isinstance (by decide +kernel) (pa_cons (pv 1) (pa_cons (pe_gn (v := .ref a.Move) (by rfl) T.o_Move.mg rfl) pa_nil))))) (pss_one (ps_ret pe_bl)) pss_nil) (pss_one (ps_ret (pe_cmpR (r := rEqU W.K) (op_eqU hr.units) (pe_fld (pv 0) rfl) (pe_fld (pv 1) rfl) (nomark _))))), ?_⟩
  refine i_start (σ' := [some (V.ref x), some v]) rfl ?_
  repeat walk_at "rd"
  rcases q with ⟨y, l, rfl, r2, o, o2, q⟩ | ⟨tn, ty, ko, q⟩
  · obtain ⟨dy, tq, e2, t2⟩ := _root_.id r2
    refine i_isiO (b := true) (.base (.ins e2 T.o_Move.cls T.o_Move.cl (by with_unfolding_all rfl) (by with_unfolding_all rfl) T.o_Move.mo)) T.o_Move.kO ?_
    repeat walk_at "rd"
    refine i_mfld r T.o_Move.cls T.n_Move_names fun tp t => ?_
    repeat walk_at "rd"
    refine i_mfld r2 T.o_Move.cls T.n_Move_names fun tp2 t2 => ?_
    exact i_eqT3 t t2 o o2 q
  · refine i_isiO (b := false) ty ko ?_
    repeat walk_at "rd"
    exact q
theorem mt_neg (T : Txt W.K W.mg a) : Mt W 4 a.Move "__neg__" (spMneg a.Move) := by
  refine mt_of T.d_Move_neg sc_Move_neg bd_Move_neg (fun vs H Q E ⟨x, k, h, _⟩ => by rw [h]; rfl) fun f cdv A outer s H vs Q E hr h => ?_
  obtain ⟨x, k, rfl, r, ok, q⟩ := h
  refine ⟨_, (pss_one (ps_ret (pe_mak (m_Move T) hr (by decide) rfl (pa_cons (pe_pp T.o_Move.cls (pp_task T) hr (by decide) (pv 0) rfl) (pa_cons (pe_pp T.o_Move.cls (pp_goal T) hr (by decide) (pv 0) rfl) (pa_cons (pe_pp T.o_Move.cls (pp_start T) hr (by decide) (pv 0) rfl) pa_nil)))))), ?_⟩
  refine i_start (σ' := [some (V.ref x)]) rfl ?_
  repeat walk_at "rd"
  exact i_mkM (k := (k.1, k.2.2, k.2.1)) ok.back q
theorem rp_len {x : Str} (n : Nm x) : (reprText x).length ≤ 82 := by
  have h := StrLaws.reprText_len x fun c hc => by
    have := n.abc c hc
    omega
  have := n.len
  omega
theorem mt_str (T : Txt W.K W.mg a) : Mt W 3 a.Move "__str__" (spMtx a.Move mStr) := by
  refine mt_of T.d_Move_str sc_Move_str bd_Move_str (fun vs H Q E ⟨x, k, h, _⟩ => by rw [h]; rfl) fun f cdv A outer s H vs Q E hr h => ?_
  obtain ⟨x, k, rfl, r, ok, q⟩ := h
  have l1 := ok.a.len
  have l2 := ok.b.len
  have l3 := ok.c.len
  have c1 : (": " : Str).length = 2 := by decide +kernel
  have c2 : (" to " : Str).length = 4 := by decide +kernel
  unfold mStr at q
  refine ⟨_, (pss_one (ps_ret (pe_joined (.cons (pe_fmt (pe_pp T.o_Move.cls (pp_task T) hr (by decide) (pv 0) rfl)) (.cons pe_str (.cons (pe_fmt (pe_pp T.o_Move.cls (pp_start T) hr (by decide) (pv 0) rfl)) (.cons pe_str (.cons (pe_fmt (pe_pp T.o_Move.cls (pp_goal T) hr (by decide) (pv 0) rfl)) .nil)))))))), ?_⟩
  refine i_start (σ' := [some (V.ref x)]) rfl ?_
  repeat walk_at "rd"
  refine i_js ?_
  repeat walk_at "rd"
  refine i_fmt_s (by omega) ⟨_, rfl, ?_, ?_⟩
  · rw [emp_app]
    exact sl_of (by omega)
  refine i_js ⟨_, rfl, ?_, ?_⟩
  · rw [emp_app, app_len]
    exact sl_of (by omega)
  refine i_js ?_
  repeat walk_at "rd"
  refine i_fmt_s (by omega) ⟨_, rfl, ?_, ?_⟩
  · rw [emp_app, app_len, app_len]
    exact sl_of (by omega)
  refine i_js ⟨_, rfl, ?_, ?_⟩
  · rw [emp_app, app_len, app_len, app_len]
    exact sl_of (by omega)
  refine i_js ?_
  repeat walk_at "rd"
  refine i_fmt_s (by omega) ⟨_, rfl, ?_, ?_⟩
  · rw [emp_app, app_len, app_len, app_len, app_len]
    exact sl_of (by omega)
  refine i_js0 ?_
  rw [emp_app]
  exact q
theorem mt_repr (T : Txt W.K W.mg a) : Mt W 3 a.Move "__repr__" (spMtx a.Move mRep) := by
  refine mt_of T.d_Move_repr sc_Move_repr bd_Move_repr (fun vs H Q E ⟨x, k, h, _⟩ => by rw [h]; rfl) fun f cdv A outer s H vs Q E hr h => ?_
  obtain ⟨x, k, rfl, r, ok, q⟩ := h
  have l1 := rp_len ok.a
  have l2 := rp_len ok.b
  have l3 := rp_len ok.c
  have c1 : ("Move(" : Str).length = 5 := by decide +kernel
  have c2 : (", " : Str).length = 2 := by decide +kernel
  have c3 : (")" : Str).length = 1 := by decide +kernel
  unfold mRep at q
  refine ⟨_, (pss_one (ps_ret (pe_joined (.cons pe_str (.cons (pe_fmtR (pe_pp T.o_Move.cls (pp_task T) hr (by decide) (pv 0) rfl)) (.cons pe_str (.cons (pe_fmtR (pe_pp T.o_Move.cls (pp_start T) hr (by decide) (pv 0) rfl)) (.cons pe_str (.cons (pe_fmtR (pe_pp T.o_Move.cls (pp_goal T) hr (by decide) (pv 0) rfl)) (.cons pe_str .nil)))))))))), ?_⟩
  refine i_start (σ' := [some (V.ref x)]) rfl ?_
  repeat walk_at "rd"
  refine i_js ⟨_, rfl, ?_, ?_⟩
  · rw [emp_app]
    exact sl_of (by omega)
  refine i_js ?_
  repeat walk_at "rd"
  refine i_fmtR_s (by omega) ⟨_, rfl, ?_, ?_⟩
  · rw [emp_app, app_len]
    exact sl_of (by omega)
  refine i_js ⟨_, rfl, ?_, ?_⟩
  · rw [emp_app, app_len, app_len]
    exact sl_of (by omega)
  refine i_js ?_
  repeat walk_at "rd"
  refine i_fmtR_s (by omega) ⟨_, rfl, ?_, ?_⟩
  · rw [emp_app, app_len, app_len, app_len]
    exact sl_of (by omega)
  refine i_js ⟨_, rfl, ?_, ?_⟩
  · rw [emp_app, app_len, app_len, app_len, app_len]
    exact sl_of (by omega)
  refine i_js ?_
  repeat walk_at "rd"
  refine i_fmtR_s (by omega) ⟨_, rfl, ?_, ?_⟩
  · rw [emp_app, app_len, app_len, app_len, app_len, app_len]
    exact sl_of (by omega)
  refine i_js ⟨_, rfl, ?_, ?_⟩
  · rw [emp_app, app_len, app_len, app_len, app_len, app_len, app_len]
    exact sl_of (by omega)
  refine i_js0 ?_
  rw [emp_app]
  exact q
end Lw

namespace Ly
open PySem PySem.Spec PyProof.Rows L2
section
variable {H : Hp} {Q : VK} {E : XK} {C : Addr} {k l : T3} {K : PySem.W.Frag} {p x y : Addr} {v : V}
theorem i_named {tk : Addr} {n : Int} {taken : List Str} (hp : Pot H p) (ht : tk ≠ p) (he : H tk = some (.lst (taken.map V.str))) (n0 : 0 ≤ n) (hz : n.toNat + taken.length < 100)
    (q : ∀ r H' (ys : List Str), H r = none → Dr p H H' → H' r = some (.lst (ys.map V.str)) → ys.length = n.toNat → ys.Nodup → (∀ y ∈ ys, Nm y ∧ y ∉ taken) → Q (.ref r) H') : spNamed [.ref p, .int n, .ref tk] H Q E := ⟨p, tk, n, taken, rfl, hp, ht, he, n0, hz, q⟩
/-- rows: tuples of a task and two servers -/
def spRows : Sp := fun vs H Q _ => ∃ (p : Addr) (n : Int), vs = [.ref p, .int n] ∧ Pot H p ∧ 0 ≤ n ∧ n ≤ 100 ∧ ∀ r H' (L : List (Addr × T3)), H r = none → Dr p H H' → H' r = some (.lst (refs L)) → Trips H' L → L.length = n.toNat → (∀ x ∈ L, OkM x.2) → Q (.ref r) H'
theorem i_rows {n : Int} (hp : Pot H p) (h0 : 0 ≤ n) (h1 : n ≤ 100) (q : ∀ r H' (L : List (Addr × T3)), H r = none → Dr p H H' → H' r = some (.lst (refs L)) → Trips H' L → L.length = n.toNat → (∀ x ∈ L, OkM x.2) → Q (.ref r) H') : spRows [.ref p, .int n] H Q E := ⟨p, n, rfl, hp, h0, h1, q⟩
def spMk (C : Addr) : Sp := fun vs H Q _ => ∃ (p x : Addr) (k : T3), vs = [.ref p, .ref x] ∧ Pot H p ∧ TripAt H x k ∧ OkM k ∧ ∀ r H', Dr p H H' → MvAt C H' r k → Q (.ref r) H'
theorem i_mk (hp : Pot H p) (t : TripAt H x k) (o : OkM k) (q : ∀ r H', Dr p H H' → MvAt C H' r k → Q (.ref r) H') : spMk C [.ref p, .ref x] H Q E := ⟨p, x, k, rfl, hp, t, o, q⟩
theorem TripAt.pk {p : Addr} {H H' : Hp} {r : Addr} {k : T3} (h : TripAt H r k) (d : Dr p H H') : TripAt H' r k := d.tup h
theorem MvAt.pk {p : Addr} {C : Addr} {H H' : Hp} {r : Addr} {k : T3} (h : MvAt C H r k) (d : Dr p H H') : MvAt C H' r k := h.nl d.nl
theorem Trips.pk {p : Addr} {H H' : Hp} {L : List (Addr × T3)} (h : Trips H L) (d : Dr p H H') : Trips H' L := fun x hx => (h x hx).pk d
theorem i_mkMK (o : OkM k) (q : ∀ x H', H x = none → Same H H' → MvAt C H' x k → Q (.ref x) H') : rMakeKg gR 3 C (spMInit C) [.str k.2.2, .str k.1, .str k.2.1] H Q := ⟨rfl, i_mkM o q⟩
theorem zz_nm : Nm ("zzzzzzzz" : Str) := by
  have e : ("zzzzzzzz" : Str).cps.toList = List.replicate 8 122 := by decide +kernel
  refine ⟨by decide +kernel, by decide +kernel, fun c hc => ?_⟩
  rw [e] at hc
  have := List.eq_of_mem_replicate hc
  omega
theorem two_of {ys : List Str} (nd : ys.Nodup) (l : 2 ≤ ys.length) (x : Str) : ∃ y ∈ ys, y ≠ x := by
  match ys, nd, l with
  | a :: b :: _, nd, _ =>
    have hab : a ≠ b := fun z => (List.nodup_cons.mp nd).1 (by rw [z]; exact List.mem_cons_self ..)
    by_cases h : a = x
    · exact ⟨b, by simp, fun z => hab (h.trans z.symm)⟩
    · exact ⟨a, by simp, h⟩
theorem refs_app {α : Type} (L M : List (Addr × α)) : refs (L ++ M) = refs L ++ refs M := List.map_append
theorem refs_len {α : Type} (L : List (Addr × α)) : (refs L).length = L.length := List.length_map ..
theorem keys_len {α : Type} (L : List (Addr × α)) : (keys L).length = L.length := List.length_map ..
end
end Ly
namespace Lw
open PySem PySem.Spec PyProof.Rows L2 Ly
local macro_rules | `(tactic| walk_at "rd") => `(tactic| first
  | ((with_reducible refine' i_var ?hv ?_); (case hv => exact rfl))
  | with_reducible refine i_c ?_
  | with_reducible refine i_op ?_
  | with_reducible refine i_cons ?_
  | with_reducible refine i_nil ?_
  | with_reducible refine i_cb ?_
  | with_reducible refine i_call ?_
  | with_reducible refine i_I0 ?_
  | with_reducible refine i_add_i ?_
  | with_reducible refine i_sub_i ?_
  | with_reducible refine i_md_i (by first | decide | assumption) ?_
  | ((with_reducible refine' i_md_i ?c ?_); rotate_left)
  | ((with_reducible refine' i_mul_i ?c ?_); rotate_left)
  | with_reducible refine i_fd_i (by decide) ?_
  | ((with_reducible refine' i_fd_i ?c ?_); rotate_left)
  | with_reducible refine i_int ?_
  | with_reducible refine i_abs ?_
  | with_reducible refine i_max2 ?_
  | with_reducible refine i_min2 ?_
  | with_reducible refine i_gcd ?_
  | with_reducible refine i_seq ?_
  | with_reducible refine i_if ?_
  | with_reducible refine i_asg ?_
  | with_reducible refine i_ret ?_
  | with_reducible refine i_drop ?_
  | with_reducible refine i_next ?_
  | with_reducible refine i_un ?_
  | with_reducible refine i_U ?_
  | ((with_reducible refine i_gname ?_); dsimp only [List.set])
  | with_reducible refine i_test ?_
  | with_reducible refine i_not ?_
  | with_reducible refine i_tb ?_
  | with_reducible refine i_andV ?_
  | with_reducible refine i_orV ?_
  | with_reducible refine i_notV ?_
  | with_reducible refine i_ifx ?_
  | with_reducible refine i_ext ?_
  | with_reducible refine i_exf ?_
  | with_reducible refine i_exn ?_
  | with_reducible refine i_itt ?_
  | with_reducible refine i_itf ?_
  | with_reducible refine i_gsub ?_
  | with_reducible refine i_nt ?_
  | with_reducible refine i_tup ?_
  | with_reducible refine i_lst ?_
  | with_reducible refine i_nf ?_
  | with_reducible refine i_isint ?_
  | ((with_reducible refine' i_top ?r ?_); (case r => walk_at "hp"))
  | ((with_reducible refine' i_bot ?r ?_); (case r => walk_at "hp"))
  | with_reducible refine i_fld ?_
  | with_reducible refine i_sfld ?_
  | with_reducible refine i_pp ?_
  | with_reducible refine i_meth ?_
  | with_reducible refine i_smeth ?_
  | with_reducible refine i_make ?_
  | with_reducible refine i_sl ?_
  | with_reducible refine i_noPart ?_
  | with_reducible refine i_part ?_
  | with_reducible refine i_smethK ?_
  | with_reducible refine i_sk1 ?_
  | with_reducible refine i_makeK ?_
  | with_reducible refine i_methK ?_
  | with_reducible refine i_mk11 ?_
  | ((with_reducible refine' i_rmk ?r ?h1 ?h2 ?_); (case r => walk_at "hp"); (case h1 => decide +kernel); (case h2 => decide +kernel))
  | with_reducible refine i_tpar ?_
  | ((with_reducible refine i_rpar ?_); dsimp only [List.set])
  | with_reducible refine i_eq_s rfl ?_
  | with_reducible refine i_ne_s rfl ?_
  | ((with_reducible refine' i_rtop ?r ?c ?n ?_); (case r => walk_at "hp"); (case c => assumption); (case n => assumption))
  | ((with_reducible refine' i_rbot ?r ?c ?n ?_); (case r => walk_at "hp"); (case c => assumption); (case n => assumption))
  | ((with_reducible refine' i_rpp ?r ?_); (case r => walk_at "hp"))
  | ((with_reducible refine' i_rmeth ?r ?h1 ?h2 ?_); (case r => walk_at "hp"); (case h1 => decide +kernel); (case h2 => decide +kernel))
  | ((with_reducible refine' i_ix_l ?hp ?ha ?_); (case hp => walk_at "hp"); (case ha => exact rfl))
  | ((with_reducible refine' i_len_l ?hp ?_); (case hp => walk_at "hp"))
  | ((with_reducible refine' i_ix_f0 ?hp ?_); (case hp => walk_at "hp"))
  | ((with_reducible refine' i_ix_f1 ?hp ?_); (case hp => walk_at "hp"))
  | ((with_reducible refine' i_ix_t ?hp ?ha ?_); (case hp => walk_at "hp"); (case ha => exact rfl)))
local macro_rules | `(tactic| walk_at "hp") => `(tactic| first
  | assumption
  | exact upd_same
  | exact SqL.of (by assumption)
  | (refine' Dr.tup (by assumption) ?hq; (case hq => walk_at "hp"))
  | (refine' FrL.same (by assumption) ?hq; (case hq => walk_at "hp"))
  | (refine' FracAt.same (by assumption) ?hq; (case hq => walk_at "hp"))
  | (refine' FracAt.nl (by assumption) ?hq; (case hq => walk_at "hp"))
  | (refine' RatAt.nl (by assumption) ?hq; (case hq => walk_at "hp"))
  | (refine' Num.nl (by assumption) ?hq; (case hq => walk_at "hp"))
  | (refine' FracAt.pk (by assumption) ?hq; (case hq => walk_at "hp"))
  | (refine' RatAt.pk (by assumption) ?hq; (case hq => walk_at "hp"))
  | (refine' Num.pk (by assumption) ?hq; (case hq => walk_at "hp"))
  | (refine' Dr.keep (by assumption) _ _ (by assumption) ?hq; (case hq => walk_at "hp"))
  | (refine' (show Same _ _ by assumption) _ _ ?hq; (case hq => walk_at "hp"))
  | (refine' RatAt.same (by assumption) ?hq; (case hq => walk_at "hp"))
  | (refine' Num.same (by assumption) ?hq; (case hq => walk_at "hp")))
local macro_rules | `(tactic| walk_at "sm") => `(tactic| first
  | assumption
  | exact Same.refl _
  | (refine' Same.kl (by assumption) (by assumption) ?aa; (case aa => walk_at "sm"))
  | (refine' Same.trans ?aa (by assumption); (case aa => walk_at "sm")))
local macro_rules | `(tactic| walk_at "dr") => `(tactic| first
  | assumption
  | (refine' Dr.same ?aa (by assumption); (case aa => walk_at "dr"))
  | (refine' Dr.trans ?aa (by assumption); (case aa => walk_at "dr")))

local macro_rules | `(tactic| walk_at "rd") => `(tactic| first
  | ((with_reducible refine' i_mpp ?r ?_); (case r => walk_at "hp"))
  | with_reducible refine i_fmt ?_
  | with_reducible refine i_fmtR ?_
  | with_reducible refine i_forT ?_
  | with_reducible refine i_forL ?_
  | with_reducible refine i_forE ?_
  | with_reducible refine i_sl ?_
  | with_reducible refine i_noPart ?_
  | with_reducible refine i_part ?_
  | with_reducible refine i_tM1 ?_
  | with_reducible refine i_tBM ?_
  | with_reducible refine i_makeKg ?_
  | ((with_reducible refine' i_add_s ?hz ?_); (case hz => (refine sl_of ?_; (try simp only [app_len]); omega)))
  | with_reducible refine i_lct ?_
  | ((with_reducible refine' i_mtx ?r ?o ?_); (case r => walk_at "hp"); (case o => assumption)))
local macro_rules | `(tactic| walk_at "hp") => `(tactic| first
  | (refine' MvAt.same (by assumption) ?hq; (case hq => walk_at "sm"))
  | (refine' TripAt.same (by assumption) ?hq; (case hq => walk_at "sm"))
  | (refine' Trips.same (by assumption) ?hq; (case hq => walk_at "sm")))

variable {W : Wd} {a : Ad}
theorem k_law_drawn (T : Txt W.K W.mg a) : Cl W 3 "_law_drawn" spRows := by
  refine cl_of' T.d_law_drawn sc_law_drawn bd_law_drawn (fun vs H Q E ⟨p, n, h, _⟩ => by rw [h]; rfl) fun f cdv A outer s0 H vs Q E hr h => ?_
  obtain ⟨p, n, rfl, hp, n0, n1, q⟩ := h
  refine ⟨_, (pss_cons (ps_set (i := 2) sc_law_drawn.nd rfl (Or.inl rfl) (pe_op op_addU (pe_cl (k_law_named T) hr (by decide) rfl (pa_cons (pv 0) (pa_cons (pe_op op_addU pe_int (pe_cl (k_law_draw T) hr (by decide) rfl (pa_cons (pv 0) (pa_cons pe_int pa_nil)))) (pa_cons (pe_lst pa_nil) pa_nil)))) (pe_lst (pa_cons pe_str pa_nil)))) (pss_cons (ps_set (i := 3) sc_law_drawn.nd rfl (Or.inl rfl) (pe_cl (k_law_pick T) hr (by decide) rfl (pa_cons (pv 0) (pa_cons (pe_lst (pa_cons (pv 2) (pa_cons (pe_cl (k_law_named T) hr (by decide) rfl (pa_cons (pv 0) (pa_cons (pe_op op_addU pe_int (pe_cl (k_law_draw T) hr (by decide) rfl (pa_cons (pv 0) (pa_cons pe_int pa_nil)))) (pa_cons (pe_lst pa_nil) pa_nil)))) pa_nil))) pa_nil)))) (pss_cons (ps_set (i := 4) sc_law_drawn.nd rfl (Or.inl rfl) (pe_lst pa_nil)) (pss_cons (ps_for PassesOwn.never rfl (pi_range1 rfl T.b_range (pa_cons (pv 1) pa_nil)) (pg_name (i := 5) sc_law_drawn.nd rfl (Or.inl rfl)) (pss_cons (ps_set (i := 6) sc_law_drawn.nd rfl (Or.inr rfl) (pe_cl (k_law_pick T) hr (by decide) rfl (pa_cons (pv 0) (pa_cons (pv 2) pa_nil)))) (pss_cons (ps_set (i := 7) sc_law_drawn.nd rfl (Or.inl rfl) (pe_cl (k_law_pick T) hr (by decide) rfl (pa_cons (pv 0) (pa_cons (pe_lc (own := [("_law_spot", 8)]) (g := (gName 8)) (tt := _) rfl sc_law_drawn.nd (pi_listK (K := W.K) rfl (pv 2)) (blkOk_by (N := N_law_drawn) (sc := defScope s_law_drawn) (by decide +kernel)) (fun _ _ _ _ _ => (pg_name (i := 8) sc_law_drawn.nd rfl (Or.inl rfl))) (fun _ _ _ _ _ => (pts_one (pt_cmpR (r := rNeU W.K) (op_neU hr.units) (pv 8) (pv 6) (nomark _)))) (fun _ _ _ _ _ => (pv 8))) pa_nil)))) (pss_one (ps_expr (pe_bmK (K := W.K) rfl PySem.F.plainAttrs_list PySem.F.slot_list_append PySem.F.type_list_append mt_append (pv 4) (pa_cons (pe_tup (pa_cons (pe_cl (k_law_pick T) hr (by decide) rfl (pa_cons (pv 0) (pa_cons (pv 3) pa_nil))) (pa_cons (pv 6) (pa_cons (pv 7) pa_nil)))) pa_nil))))))) (pss_one (ps_ret (pv 4))))))), ?_⟩
  refine i_start (σ' := [some (V.ref p), some (V.int n), none, none, none, none, none, none, none]) rfl ?_
  repeat walk_at "rd"
  refine i_draw hp (by decide) (sz_lit (by decide)) fun d H1 d0 d1 k1 => ?_
  repeat walk_at "rd"
  refine i_mkL (by decide) fun t0 H2 nt0 ht0 s2 => ?_
  have p2 : Pot H2 p := k1.pot'.same s2
  repeat walk_at "rd"
  refine i_named (taken := []) p2 (fresh_ne k1.pot' nt0) ht0 (by omega) (by simp; omega) fun r1 H3 ys nr1 k3 hr1 hl nd ok => ?_
  repeat walk_at "rd"
  refine i_mkL1 fun z1 H4 nz1 hz1 s4 => ?_
  have lz : ("zzzzzzzz" : Str).length = 8 := by decide +kernel
  have ly : ys.length ≤ 10 := by omega
  refine i_catL (xs := ys.map V.str) (s4 _ _ hr1) hz1 (by rw [List.length_map]; show _ + 1 ≤ 1000; omega) fun sp H5 nsp hsp s5 => ?_
  have esp : ys.map V.str ++ [V.str ("zzzzzzzz" : Str)] = (ys ++ [("zzzzzzzz" : Str)]).map V.str := by
    rw [List.map_append]
    rfl
  rw [esp] at hsp
  have okS : ∀ y ∈ ys ++ [("zzzzzzzz" : Str)], Nm y := fun y hy => by
    rcases List.mem_append.mp hy with h | h
    · exact (ok y h).1
    · rw [List.mem_singleton] at h
      rw [h]
      exact zz_nm
  have two : ∀ x : Str, ∃ y ∈ ys ++ [("zzzzzzzz" : Str)], y ≠ x := fun x => by
    obtain ⟨y, hy, ne⟩ := two_of nd (by omega) x
    exact ⟨y, List.mem_append_left _ hy, ne⟩
  have lS : (ys ++ [("zzzzzzzz" : Str)]).length ≤ 20 := by
    rw [List.length_append]
    show _ + 1 ≤ 20
    omega
  have nS : ys ++ [("zzzzzzzz" : Str)] ≠ [] := by simp
  generalize ys ++ [("zzzzzzzz" : Str)] = S at hsp okS two lS nS
  have kk5 : Dr p H H5 := ((((k1.same s2).trans k3).same s4).same s5)
  have psp : sp ≠ p := fresh_ne ((k3.same s4).pot') nsp
  repeat walk_at "rd"
  refine i_draw kk5.pot' (by decide) (sz_lit (by decide)) fun e H6 e0 e1 k6 => ?_
  repeat walk_at "rd"
  refine i_mkL (by decide) fun t1 H7 nt1 ht1 s7 => ?_
  repeat walk_at "rd"
  refine i_named (taken := []) (k6.pot'.same s7) (fresh_ne k6.pot' nt1) ht1 (by omega) (by simp; omega) fun r2 H8 zs nr2 k8 hr2 hl2 nd2 ok2 => ?_
  repeat walk_at "rd"
  refine i_mkL2 fun z2 H9 nz2 hz2 s9 => ?_
  have kk8 : Dr p H5 H8 := (k6.same s7).trans k8
  repeat walk_at "rd"
  refine i_pick (kk8.pot'.same s9) (fresh_ne kk8.pot' nz2) hz2 (by simp) (by show 2 ≤ 1000; decide) fun x H10 hx k10 => ?_
  have kk10 : Dr p H5 H10 := (kk8.same s9).trans k10
  have pr2 : r2 ≠ p := fresh_ne (k6.pot'.same s7) nr2
  obtain ⟨j, J, rfl, pj, hj, okJ, lJ, nJ⟩ : ∃ (j : Addr) (J : List Str), x = V.ref j ∧ j ≠ p ∧ H10 j = some (.lst (J.map V.str)) ∧ (∀ y ∈ J, Nm y) ∧ J.length ≤ 20 ∧ J ≠ [] := by
    simp only [List.mem_cons, List.mem_nil_iff, or_false] at hx
    rcases hx with rfl | rfl
    · exact ⟨sp, S, rfl, psp, kk10.keep _ _ psp hsp, okS, lS, nS⟩
    · exact ⟨r2, zs, rfl, pr2, k10.keep _ _ pr2 (s9 _ _ hr2), fun y hy => (ok2 y hy).1, by omega, fun z => by rw [z] at hl2; simp at hl2; omega⟩
  have hsp10 : H10 sp = some (.lst (S.map V.str)) := kk10.keep _ _ psp hsp
  have kk : Dr p H H10 := kk5.trans kk10
  repeat walk_at "rd"
  refine i_mkL (by decide) fun l H11 nl hl11 s11 => ?_
  repeat walk_at "rd"
  have kk_free : H l = none := kk.free nl
  have pl : l ≠ p := fresh_ne kk.pot' nl
  have lsp : l ≠ sp := fun z => by rw [z, hsp10] at nl; cases nl
  have lj : l ≠ j := fun z => by rw [z, hj] at nl; cases nl
  refine i_for ?_
  repeat walk_at "rd"
  have fin : ∀ H12 (L : List (Addr × T3)), Dr p H H12 → H12 l = some (.lst (refs L)) → Trips H12 L → L.length = n.toNat → (∀ x ∈ L, OkM x.2) → Q (.ref l) H12 := fun H12 L k12 h1 h2 h3 h4 => q l H12 L (kk.free nl) k12 h1 h2 h3 h4
  refine i_rfor n0 (by omega) (fun i σ H' => ∃ (v1 v2 v3 v4 : Option V) (L : List (Addr × T3)), σ = [some (.ref p), some (.int n), some (.ref sp), some (.ref j), some (.ref l), v1, v2, v3, v4] ∧ Dr p H H' ∧ H' l = some (.lst (refs L)) ∧ Trips H' L ∧ L.length = i ∧ (∀ x ∈ L, OkM x.2) ∧ H' sp = some (.lst (S.map V.str)) ∧ H' j = some (.lst (J.map V.str)))
    ⟨_, _, _, _, [], rfl, kk.same s11, hl11, fun _ h => (by cases h), rfl, fun _ h => (by cases h), s11 _ _ hsp10, s11 _ _ hj⟩ ?_ ?_
  · clear hl11 s11 kk hsp10 hj kk10 k10 hx hz2 s9 hr2 k8 ht1 s7 k6 hsp s5 hz1 s4 hr1 k3 ht0 s2 k1 kk5 kk8 p2
    rintro i σ' H12 hi ⟨v1, v2, v3, v4, L, rfl, k12, hl12, tr, hL, okL, hs12, hj12⟩
    dsimp only [List.set]
    repeat walk_at "rd"
    refine i_pick k12.pot' psp hs12 (by simpa using nS) (by rw [List.length_map]; omega) fun x H13 hx k13 => ?_
    obtain ⟨hr, hhr, rfl⟩ := List.mem_map.mp hx
    have hs13 := k13.keep _ _ psp hs12
    repeat walk_at "rd"
    refine i_lcl ?_
    repeat walk_at "rd"
    refine i_rlcF (sP fun x => !decide (x = hr)) _root_.id (SqL.of hs13) (fun H' s => SqL.of (s _ _ hs13)) (by rw [List.length_map]; omega) (fun x => rfl) ?_ ?_ ?_
    · intro x H' R hx s hR
      obtain ⟨y, _, rfl⟩ := List.mem_map.mp hx
      dsimp only [List.map, wipe, List.set]
      repeat walk_at "rd"
      have e : (!decide (V.str y = V.str hr)) = sP (fun x => !decide (x = hr)) (V.str y) := by
        show _ = !decide (y = hr)
        congr 1
        apply decide_eq_decide.mpr
        exact ⟨fun z => V.str.inj z, fun z => by rw [z]⟩
      rw [e]
      exact hR
    · intro x H' Q' hx hP s q'
      dsimp only [List.map, wipe, List.set]
      repeat walk_at "rd"
      exact q' _ (Same.refl _)
    intro fl H14 nfl s14 hfl
    rw [List.map_id, filt_strs] at hfl
    have k14 : Dr p H12 H14 := k13.same s14
    have nfl' : S.filter (fun x => !decide (x = hr)) ≠ [] := by
      obtain ⟨y, hy, ne⟩ := two hr
      refine List.ne_nil_of_mem (a := y) (List.mem_filter.mpr ⟨hy, by simp [ne]⟩)
    repeat walk_at "rd"
    refine i_pick k14.pot' (fresh_ne k13.pot' nfl) hfl (by simpa using nfl') (by rw [List.length_map]; exact Nat.le_trans (List.length_filter_le ..) (by omega)) fun x H15 hx k15 => ?_
    obtain ⟨ht, hht, rfl⟩ := List.mem_map.mp hx
    obtain ⟨hht1, hht2⟩ := List.mem_filter.mp hht
    have ne : ht ≠ hr := by simpa using hht2
    have k15' : Dr p H12 H15 := k14.trans k15
    repeat walk_at "rd"
    refine ⟨ty_lst (k15'.keep _ _ pl hl12), ?_⟩
    repeat walk_at "rd"
    refine i_pick k15'.pot' pj (k15'.keep _ _ pj hj12) (by simpa using nJ) (by rw [List.length_map]; omega) fun x H16 hx k16 => ?_
    obtain ⟨jb, hjb, rfl⟩ := List.mem_map.mp hx
    have k16' : Dr p H12 H16 := k15'.trans k16
    repeat walk_at "rd"
    refine i_mkT (by show 3 ≤ 1000; decide) fun tp H17 ntp htp s17 => ?_
    repeat walk_at "rd"
    have hl17 := s17 _ _ (k16'.keep _ _ pl hl12)
    refine i_append hl17 (by rw [refs_len]; omega) fun H18 n18 k18 h18 => ?_
    repeat walk_at "rd"
    have k17 : Dr p H12 H17 := k16'.same s17
    have htp' : TripAt H17 tp (jb, hr, ht) := htp
    refine ⟨_, _, _, _, L ++ [(tp, (jb, hr, ht))], rfl, ?_, ?_, ?_, ?_, ?_, ?_, ?_⟩
    · have k : Dr p H H17 := k12.trans k17
      refine ⟨fun c o nc e => k18 c o (fun w => ?_) (k.keep c o nc e), hp, ?_⟩
      · rw [w, kk_free] at e
        cases e
      · obtain ⟨a1, b1, e, ok2⟩ := k.pot'
        exact ⟨a1, b1, k18 p _ (fun w => pl w.symm) e, ok2⟩
    · rw [refs_app]
      exact h18
    · intro x hx
      rcases List.mem_append.mp hx with h | h
      · exact ((tr x h).pk k17).nl n18
      · rw [List.mem_singleton] at h
        rw [h]
        exact htp'.nl n18
    · rw [List.length_append, hL]
      rfl
    · intro x hx
      rcases List.mem_append.mp hx with h | h
      · exact okL x h
      · rw [List.mem_singleton] at h
        rw [h]
        exact ⟨okJ _ hjb, okS _ hhr, okS _ hht1, ne⟩
    · exact k18 _ _ (fun w => lsp w.symm) (k17.keep _ _ psp hs12)
    · exact k18 _ _ (fun w => lj w.symm) (k17.keep _ _ pj hj12)
  · rintro σ' H12 ⟨v1, v2, v3, v4, L, rfl, k12, hl12, tr, hL, okL, hs12, hj12⟩
    repeat walk_at "rd"
    exact fin H12 L k12 hl12 tr hL okL
end Lw

namespace Ly
open PySem PySem.Spec PyProof.Rows L2
section
variable {H : Hp} {Q : VK} {E : XK} {C : Addr} {k l : T3} {K : PySem.W.Frag} {p x y r s : Addr} {v : V}
/-- two moves beside their rows -/
def spTwo (C : Addr) : Sp := fun vs H Q _ => ∃ (x y r s : Addr) (k l : T3), vs = [.ref x, .ref y, .ref r, .ref s] ∧ MvAt C H x k ∧ MvAt C H y l ∧ TripAt H r k ∧ TripAt H s l ∧ OkM k ∧ OkM l ∧ ∀ H', Same H H' → Q (.bl true) H'
theorem i_two (h1 : MvAt C H x k) (h2 : MvAt C H y l) (h3 : TripAt H r k) (h4 : TripAt H s l) (o : OkM k) (o2 : OkM l) (q : ∀ H', Same H H' → Q (.bl true) H') : spTwo C [.ref x, .ref y, .ref r, .ref s] H Q E := ⟨x, y, r, s, k, l, rfl, h1, h2, h3, h4, o, o2, q⟩
def spOne (C : Addr) : Sp := fun vs H Q _ => ∃ (x r : Addr) (k : T3), vs = [.ref x, .ref r] ∧ MvAt C H x k ∧ TripAt H r k ∧ OkM k ∧ ∀ H', Same H H' → Q (.bl true) H'
theorem i_one (h1 : MvAt C H x k) (h3 : TripAt H r k) (o : OkM k) (q : ∀ H', Same H H' → Q (.bl true) H') : spOne C [.ref x, .ref r] H Q E := ⟨x, r, k, rfl, h1, h3, o, q⟩
theorem i_ixT0 (h : TripAt H r k) (q : Q (.str k.1) H) : rIx K (.ref r) (.int 0) H Q := i_ix_t (v := .str k.1) h rfl q
theorem i_ixT1 (h : TripAt H r k) (q : Q (.str k.2.1) H) : rIx K (.ref r) (.int 1) H Q := i_ix_t (v := .str k.2.1) h rfl q
theorem i_ixT2 (h : TripAt H r k) (q : Q (.str k.2.2) H) : rIx K (.ref r) (.int 2) H Q := i_ix_t (v := .str k.2.2) h rfl q
theorem i_cmpTS {f : Str → Str → Bool} {z : Nat → Nat → Bool} (h1 : TripAt H r k) (h2 : TripAt H s l) (q : Q (.bl (lexS f z [k.1, k.2.1, k.2.2] [l.1, l.2.1, l.2.2])) H) : rTS K f z (.ref r) (.ref s) H Q := i_TS3 h1 h2 q
end
end Ly
namespace Lw
open PySem PySem.Spec PyProof.Rows L2 Ly
local macro_rules | `(tactic| walk_at "rd") => `(tactic| first
  | ((with_reducible refine' i_var ?hv ?_); (case hv => exact rfl))
  | with_reducible refine i_c ?_
  | with_reducible refine i_op ?_
  | with_reducible refine i_cons ?_
  | with_reducible refine i_nil ?_
  | with_reducible refine i_cb ?_
  | with_reducible refine i_call ?_
  | with_reducible refine i_I0 ?_
  | with_reducible refine i_add_i ?_
  | with_reducible refine i_sub_i ?_
  | with_reducible refine i_md_i (by first | decide | assumption) ?_
  | ((with_reducible refine' i_md_i ?c ?_); rotate_left)
  | ((with_reducible refine' i_mul_i ?c ?_); rotate_left)
  | with_reducible refine i_fd_i (by decide) ?_
  | ((with_reducible refine' i_fd_i ?c ?_); rotate_left)
  | with_reducible refine i_int ?_
  | with_reducible refine i_abs ?_
  | with_reducible refine i_max2 ?_
  | with_reducible refine i_min2 ?_
  | with_reducible refine i_gcd ?_
  | with_reducible refine i_seq ?_
  | with_reducible refine i_if ?_
  | with_reducible refine i_asg ?_
  | with_reducible refine i_ret ?_
  | with_reducible refine i_drop ?_
  | with_reducible refine i_next ?_
  | with_reducible refine i_un ?_
  | with_reducible refine i_U ?_
  | ((with_reducible refine i_gname ?_); dsimp only [List.set])
  | with_reducible refine i_test ?_
  | with_reducible refine i_not ?_
  | with_reducible refine i_or ?_
  | with_reducible refine i_and ?_
  | with_reducible refine i_tb ?_
  | with_reducible refine i_andV ?_
  | with_reducible refine i_orV ?_
  | with_reducible refine i_notV ?_
  | with_reducible refine i_ifx ?_
  | with_reducible refine i_ext ?_
  | with_reducible refine i_exf ?_
  | with_reducible refine i_exn ?_
  | with_reducible refine i_itt ?_
  | with_reducible refine i_itf ?_
  | with_reducible refine i_gsub ?_
  | with_reducible refine i_nt ?_
  | with_reducible refine i_tup ?_
  | with_reducible refine i_lst ?_
  | with_reducible refine i_nf ?_
  | with_reducible refine i_isint ?_
  | ((with_reducible refine' i_top ?r ?_); (case r => walk_at "hp"))
  | ((with_reducible refine' i_bot ?r ?_); (case r => walk_at "hp"))
  | with_reducible refine i_fld ?_
  | with_reducible refine i_sfld ?_
  | with_reducible refine i_pp ?_
  | with_reducible refine i_meth ?_
  | with_reducible refine i_smeth ?_
  | with_reducible refine i_make ?_
  | with_reducible refine i_sl ?_
  | with_reducible refine i_noPart ?_
  | with_reducible refine i_part ?_
  | with_reducible refine i_smethK ?_
  | with_reducible refine i_sk1 ?_
  | with_reducible refine i_makeK ?_
  | with_reducible refine i_methK ?_
  | with_reducible refine i_mk11 ?_
  | ((with_reducible refine' i_rmk ?r ?h1 ?h2 ?_); (case r => walk_at "hp"); (case h1 => decide +kernel); (case h2 => decide +kernel))
  | with_reducible refine i_tpar ?_
  | ((with_reducible refine i_rpar ?_); dsimp only [List.set])
  | with_reducible refine i_eq_s rfl ?_
  | with_reducible refine i_ne_s rfl ?_
  | ((with_reducible refine' i_rtop ?r ?c ?n ?_); (case r => walk_at "hp"); (case c => assumption); (case n => assumption))
  | ((with_reducible refine' i_rbot ?r ?c ?n ?_); (case r => walk_at "hp"); (case c => assumption); (case n => assumption))
  | ((with_reducible refine' i_rpp ?r ?_); (case r => walk_at "hp"))
  | ((with_reducible refine' i_rmeth ?r ?h1 ?h2 ?_); (case r => walk_at "hp"); (case h1 => decide +kernel); (case h2 => decide +kernel))
  | ((with_reducible refine' i_ix_l ?hp ?ha ?_); (case hp => walk_at "hp"); (case ha => exact rfl))
  | ((with_reducible refine' i_len_l ?hp ?_); (case hp => walk_at "hp"))
  | ((with_reducible refine' i_ix_f0 ?hp ?_); (case hp => walk_at "hp"))
  | ((with_reducible refine' i_ix_f1 ?hp ?_); (case hp => walk_at "hp"))
  | ((with_reducible refine' i_ix_t ?hp ?ha ?_); (case hp => walk_at "hp"); (case ha => exact rfl)))
local macro_rules | `(tactic| walk_at "hp") => `(tactic| first
  | assumption
  | exact upd_same
  | exact SqL.of (by assumption)
  | (refine' Dr.tup (by assumption) ?hq; (case hq => walk_at "hp"))
  | (refine' FrL.same (by assumption) ?hq; (case hq => walk_at "hp"))
  | (refine' FracAt.same (by assumption) ?hq; (case hq => walk_at "hp"))
  | (refine' FracAt.nl (by assumption) ?hq; (case hq => walk_at "hp"))
  | (refine' RatAt.nl (by assumption) ?hq; (case hq => walk_at "hp"))
  | (refine' Num.nl (by assumption) ?hq; (case hq => walk_at "hp"))
  | (refine' FracAt.pk (by assumption) ?hq; (case hq => walk_at "hp"))
  | (refine' RatAt.pk (by assumption) ?hq; (case hq => walk_at "hp"))
  | (refine' Num.pk (by assumption) ?hq; (case hq => walk_at "hp"))
  | (refine' Dr.keep (by assumption) _ _ (by assumption) ?hq; (case hq => walk_at "hp"))
  | (refine' (show Same _ _ by assumption) _ _ ?hq; (case hq => walk_at "hp"))
  | (refine' RatAt.same (by assumption) ?hq; (case hq => walk_at "hp"))
  | (refine' Num.same (by assumption) ?hq; (case hq => walk_at "hp")))
local macro_rules | `(tactic| walk_at "sm") => `(tactic| first
  | assumption
  | exact Same.refl _
  | (refine' Same.kl (by assumption) (by assumption) ?aa; (case aa => walk_at "sm"))
  | (refine' Same.trans ?aa (by assumption); (case aa => walk_at "sm")))
local macro_rules | `(tactic| walk_at "dr") => `(tactic| first
  | assumption
  | (refine' Dr.same ?aa (by assumption); (case aa => walk_at "dr"))
  | (refine' Dr.trans ?aa (by assumption); (case aa => walk_at "dr")))

local macro_rules | `(tactic| walk_at "rd") => `(tactic| first
  | ((with_reducible refine' i_mpp ?r ?_); (case r => walk_at "hp"))
  | with_reducible refine i_fmt ?_
  | with_reducible refine i_fmtR ?_
  | with_reducible refine i_forT ?_
  | with_reducible refine i_forL ?_
  | with_reducible refine i_forE ?_
  | with_reducible refine i_sl ?_
  | with_reducible refine i_noPart ?_
  | with_reducible refine i_part ?_
  | with_reducible refine i_tM1 ?_
  | with_reducible refine i_tBM ?_
  | with_reducible refine i_makeKg ?_
  | ((with_reducible refine' i_add_s ?hz ?_); (case hz => (refine sl_of ?_; (try simp only [app_len]); omega)))
  | with_reducible refine i_lct ?_
  | ((with_reducible refine' i_mtx ?r ?o ?_); (case r => walk_at "hp"); (case o => assumption)))
local macro_rules | `(tactic| walk_at "hp") => `(tactic| first
  | (refine' MvAt.same (by assumption) ?hq; (case hq => walk_at "sm"))
  | (refine' TripAt.same (by assumption) ?hq; (case hq => walk_at "sm"))
  | (refine' Trips.same (by assumption) ?hq; (case hq => walk_at "sm")))

local macro_rules | `(tactic| walk_at "rd") => `(tactic| first
  | ((with_reducible refine' i_ixT0 ?r ?_); (case r => walk_at "hp"))
  | ((with_reducible refine' i_ixT1 ?r ?_); (case r => walk_at "hp"))
  | ((with_reducible refine' i_ixT2 ?r ?_); (case r => walk_at "hp")))
variable {W : Wd} {a : Ad}
theorem k_law_made (T : Txt W.K W.mg a) : Cl W 4 "_law_made" (spMk a.Move) := by
  refine cl_of' T.d_law_made sc_law_made bd_law_made (fun vs H Q E ⟨p, x, k, h, _⟩ => by rw [h]; rfl) fun f cdv A outer s0 H vs Q E hr h => ?_
  obtain ⟨p, x, k, rfl, hp, t, o, q⟩ := h
  refine ⟨_, (pss_cons (ps_if (pt_cmpR (r := rEqU W.K) (op_eqU hr.units) (pe_cl (k_law_draw T) hr (by decide) rfl (pa_cons (pv 0) (pa_cons pe_int pa_nil))) pe_int (nomark _)) (pss_one (ps_ret (pe_mak (m_Move T) hr (by decide) rfl (pa_cons (pe_ix (r := rIx W.K) ix_U (pv 1) pe_int (fun _ _ => rfl)) (pa_cons (pe_ix (r := rIx W.K) ix_U (pv 1) pe_int (fun _ _ => rfl)) (pa_cons (pe_ix (r := rIx W.K) ix_U (pv 1) pe_int (fun _ _ => rfl)) pa_nil)))))) pss_nil) (pss_one (ps_ret (pe_makKg (mk_MoveK T) hr (by decide) (by rfl) (pk_cons (pe_ix (r := rIx W.K) ix_U (pv 1) pe_int (fun _ _ => rfl)) (pk_cons (pe_ix (r := rIx W.K) ix_U (pv 1) pe_int (fun _ _ => rfl)) (pk_cons (pe_ix (r := rIx W.K) ix_U (pv 1) pe_int (fun _ _ => rfl)) pk_nil))))))), ?_⟩
  refine i_start (σ' := [some (V.ref p), some (V.ref x)]) rfl ?_
  repeat walk_at "rd"
  refine i_draw hp (by decide) (sz_lit (by decide)) fun d H1 d0 d1 k1 => ?_
  have t1 := t.pk k1
  repeat walk_at "rd"
  refine i_dec (fun h0 => ?_) (fun h0 => ?_)
  · repeat walk_at "rd"
    exact i_mkM o fun r H2 _ s2 m => q r H2 (k1.same s2) m
  · repeat walk_at "rd"
    exact i_mkMK o fun r H2 _ s2 m => q r H2 (k1.same s2) m
theorem k_law_two_right (T : Txt W.K W.mg a) : ClG W 5 "_law_two_right" (spTwo a.Move) := by
  refine clg_of T.d_law_two_right sc_law_two_right bd_law_two_right (fun vs H Q E ⟨x, y, r, s, k, l, h, _⟩ => by rw [h]; rfl) fun f cdv A outer s0 H vs Q E hr hgd h => ?_
  obtain ⟨x, y, r, s, k, l, rfl, m1, m2, t1, t2, o1, o2, q⟩ := h
  refine ⟨_, (pss_cons (ps_set (i := 4) sc_law_two_right.nd rfl (Or.inl rfl) (pe_lst (pa_cons (pe_cmpR (lt_m (mt_lt T) hr (by decide)) (pv 0) (pv 1) (nomark _)) (pa_cons (pe_cmpR (le_m (mt_le T) hr (by decide)) (pv 0) (pv 1) (nomark _)) (pa_cons (pe_cmpR (gt_m (mt_gt T) hr (by decide)) (pv 0) (pv 1) (nomark _)) (pa_cons (pe_cmpR (ge_m (mt_ge T) hr (by decide)) (pv 0) (pv 1) (nomark _)) (pa_cons (pe_cmpR (op_eqN (mt_eq T) T.o_Move hr (by decide)) (pv 0) (pv 1) (nomark _)) (pa_cons (pe_cmpR (op_neN (mt_eq T) T.o_Move T.x_Move_ne hr (by decide)) (pv 0) (pv 1) (nomark _)) pa_nil)))))))) (pss_one (ps_ret (pe_cmpR (r := rEqU W.K) (op_eqU hr.units) (pe_callB (r := rReprD W.K) (call_reprD hr hgd) (by rfl) T.b_repr (by decide +kernel) (pa_cons (pv 4) pa_nil)) (pe_callB (r := rReprD W.K) (call_reprD hr hgd) (by rfl) T.b_repr (by decide +kernel) (pa_cons (pe_lst (pa_cons (pe_cmpR (op_ltTS hr.units0) (pv 2) (pv 3) (nomark _)) (pa_cons (pe_cmpR (op_leTS hr.units0) (pv 2) (pv 3) (nomark _)) (pa_cons (pe_cmpR (op_gtTS hr.units0) (pv 2) (pv 3) (nomark _)) (pa_cons (pe_cmpR (op_geTS hr.units0) (pv 2) (pv 3) (nomark _)) (pa_cons (pe_cmpR (r := rEqU W.K) (op_eqU hr.units) (pv 2) (pv 3) (nomark _)) (pa_cons (pe_cmpR (r := rNeU W.K) (op_neU hr.units) (pv 2) (pv 3) (nomark _)) pa_nil))))))) pa_nil)) (nomark _))))), ?_⟩
  refine i_start (σ' := [some (V.ref x), some (V.ref y), some (V.ref r), some (V.ref s), none]) rfl ?_
  repeat walk_at "rd"
  refine i_mcmp m1 m2 ?_
  repeat walk_at "rd"
  refine i_mcmp m1 m2 ?_
  repeat walk_at "rd"
  refine i_mcmp m1 m2 ?_
  repeat walk_at "rd"
  refine i_mcmp m1 m2 ?_
  repeat walk_at "rd"
  refine i_meq m1 m2 o1.ok o2.ok ?_
  repeat walk_at "rd"
  refine i_mne m1 m2 o1.ok o2.ok ?_
  repeat walk_at "rd"
  refine i_mkL6 fun l1 H1 n1 h1 s1 => ?_
  repeat walk_at "rd"
  refine i_reprB (bs := [_, _, _, _, _, _]) h1 (by show 6 ≤ 1000; decide) ?_
  have r1 := t1.same s1
  have r2 := t2.same s1
  repeat walk_at "rd"
  refine i_cmpTS r1 r2 ?_
  repeat walk_at "rd"
  refine i_cmpTS r1 r2 ?_
  repeat walk_at "rd"
  refine i_cmpTS r1 r2 ?_
  repeat walk_at "rd"
  refine i_cmpTS r1 r2 ?_
  repeat walk_at "rd"
  refine i_eqT3 r1 r2 o1.ok o2.ok ?_
  repeat walk_at "rd"
  refine i_neT3 r1 r2 o1.ok o2.ok ?_
  repeat walk_at "rd"
  refine i_mkL6 fun l2 H2 n2 h2 s2 => ?_
  repeat walk_at "rd"
  refine i_reprB (bs := [_, _, _, _, _, _]) h2 (by show 6 ≤ 1000; decide) ?_
  repeat walk_at "rd"
  rw [decide_eq_true rfl]
  exact q _ (s1.trans s2)
theorem k_law_alone_right (T : Txt W.K W.mg a) : Cl W 8 "_law_alone_right" (spOne a.Move) := by
  refine cl_of' T.d_law_alone_right sc_law_alone_right bd_law_alone_right (fun vs H Q E ⟨x, r, k, h, _⟩ => by rw [h]; rfl) fun f cdv A outer s0 H vs Q E hr h => ?_
  obtain ⟨x, r, k, rfl, m, t, o, q⟩ := h
  have ok3 : ∀ {k : T3}, OkM k → ∀ z ∈ [k.1, k.2.1, k.2.2], PyData.strOk z = true := fun {k} o z hz => by
    simp only [List.mem_cons, List.mem_nil_iff, or_false] at hz
    rcases hz with rfl | rfl | rfl
    · exact o.a.ok
    · exact o.b.ok
    · exact o.c.ok
  refine ⟨_, (pss_cons (ps_if (pt_cmpR (r := rNeU W.K) (op_neU hr.units) (pe_lst (pa_cons (pe_pp T.o_Move.cls (pp_task T) hr (by decide) (pv 0) rfl) (pa_cons (pe_pp T.o_Move.cls (pp_start T) hr (by decide) (pv 0) rfl) (pa_cons (pe_pp T.o_Move.cls (pp_goal T) hr (by decide) (pv 0) rfl) pa_nil)))) (pe_lst (pa_cons (pe_ix (r := rIx W.K) ix_U (pv 1) pe_int (fun _ _ => rfl)) (pa_cons (pe_ix (r := rIx W.K) ix_U (pv 1) pe_int (fun _ _ => rfl)) (pa_cons (pe_ix (r := rIx W.K) ix_U (pv 1) pe_int (fun _ _ => rfl)) pa_nil)))) (nomark _)) (pss_one (ps_ret pe_bl)) pss_nil) (pss_cons (ps_set (i := 2) sc_law_alone_right.nd rfl (Or.inl rfl) (pe_un (neg_m (mt_neg T) hr (by decide)) (pv 0))) (pss_cons (ps_if (PW.pt (pw_or (pt_cmpR (r := rNeU W.K) (op_neU hr.units) (pe_lst (pa_cons (pe_pp T.o_Move.cls (pp_task T) hr (by decide) (pv 2) rfl) (pa_cons (pe_pp T.o_Move.cls (pp_start T) hr (by decide) (pv 2) rfl) (pa_cons (pe_pp T.o_Move.cls (pp_goal T) hr (by decide) (pv 2) rfl) pa_nil)))) (pe_lst (pa_cons (pe_ix (r := rIx W.K) ix_U (pv 1) pe_int (fun _ _ => rfl)) (pa_cons (pe_ix (r := rIx W.K) ix_U (pv 1) pe_int (fun _ _ => rfl)) (pa_cons (pe_ix (r := rIx W.K) ix_U (pv 1) pe_int (fun _ _ => rfl)) pa_nil)))) (nomark _)) (pw_or (pt_cmpR (op_neN (mt_eq T) T.o_Move T.x_Move_ne hr (by decide)) (pe_un (neg_m (mt_neg T) hr (by decide)) (pv 2)) (pv 0) (nomark _)) (pw_or (pt_cmpR (op_neN (mt_eq T) T.o_Move T.x_Move_ne hr (by decide)) (pe_un (neg_m (mt_neg T) hr (by decide)) (pv 0)) (pv 2) (nomark _)) (pw_or1 (pt_cmpR (op_eqN (mt_eq T) T.o_Move hr (by decide)) (pv 0) (pv 2) (nomark _))))))) (pss_one (ps_ret pe_bl)) pss_nil) (pss_cons (ps_if (pt_cmpR (r := rNeU W.K) (op_neU hr.units) (pe_callTy (str_m (mt_str T) hr (by decide)) (by rfl) T.b_str (by decide +kernel) (pa_cons (pv 0) pa_nil)) (pe_op op_addU (pe_op op_addU (pe_op op_addU (pe_op op_addU (pe_ix (r := rIx W.K) ix_U (pv 1) pe_int (fun _ _ => rfl)) pe_str) (pe_ix (r := rIx W.K) ix_U (pv 1) pe_int (fun _ _ => rfl))) pe_str) (pe_ix (r := rIx W.K) ix_U (pv 1) pe_int (fun _ _ => rfl))) (nomark _)) (pss_one (ps_ret pe_bl)) pss_nil) (pss_cons (ps_if (pt_cmpR (r := rNeU W.K) (op_neU hr.units) (pe_callB (repr_m (mt_repr T) hr (by decide)) (by rfl) T.b_repr (by decide +kernel) (pa_cons (pv 0) pa_nil)) (pe_op op_addU (pe_op op_addU pe_str (pe_joinK (K := W.K) rfl pe_str (pe_lc (own := [("_law_word", 3)]) (g := (gName 3)) (tt := tYes) rfl sc_law_alone_right.nd (pi_tupK (K := W.K) rfl (pv 1)) (blkOk_by (N := N_law_alone_right) (sc := defScope s_law_alone_right) (by decide +kernel)) (fun _ _ _ _ _ => (pg_name (i := 3) sc_law_alone_right.nd rfl (Or.inl rfl))) (fun _ _ _ _ _ => pts_nil) (fun _ _ _ _ _ => (pe_callB (r := rReprS) call_reprS (by rfl) T.b_repr (by decide +kernel) (pa_cons (pv 3) pa_nil)))))) pe_str) (nomark _)) (pss_one (ps_ret pe_bl)) pss_nil) (pss_one (ps_ret (pe_cmpR (r := rEqU W.K) (op_eqU hr.units) (pe_lst (pa_cons (pe_cmpR (r := rEqOwnT W.K a.Move (spMeq W.K a.Move) id) (eqT_m (mt_eq T) hr (by decide)) (pv 0) (pv 1) (nomark _)) (pa_cons (pe_cmpR (r := rEqOwnT W.K a.Move (spMeq W.K a.Move) id) (eqT_m (mt_eq T) hr (by decide)) (pv 0) (pe_callTy (str_m (mt_str T) hr (by decide)) (by rfl) T.b_str (by decide +kernel) (pa_cons (pv 0) pa_nil)) (nomark _)) (pa_cons (pe_cmpR (r := rEqOwnT W.K a.Move (spMeq W.K a.Move) id) (eqT_m (mt_eq T) hr (by decide)) (pv 0) (pe_callTy (r := rListOf W.K) call_listU (by rfl) T.b_list (by decide +kernel) (pa_cons (pv 1) pa_nil)) (nomark _)) (pa_cons (pe_cmpR (r := rEqOwnT W.K a.Move (spMeq W.K a.Move) not) (neT_m (mt_eq T) T.o_Move T.x_Move_ne hr (by decide)) (pv 0) (pv 1) (nomark _)) pa_nil))))) (pe_lst (pa_cons pe_bl (pa_cons pe_bl (pa_cons pe_bl (pa_cons pe_bl pa_nil))))) (nomark _))))))))), ?_⟩
  refine i_start (σ' := [some (V.ref x), some (V.ref r), none, none]) rfl ?_
  repeat walk_at "rd"
  refine i_mkL3 fun l1 H1 n1 h1 s1 => ?_
  have t1 := t.same s1
  repeat walk_at "rd"
  refine i_mkL3 fun l2 H2 n2 h2 s2 => ?_
  refine i_neSs (xs := [k.1, k.2.1, k.2.2]) (ys := [k.1, k.2.1, k.2.2]) (s2 _ _ h1) h2 rfl (ok3 o) ?_
  have m2 := (m.same s1).same s2
  have t2 := t1.same s2
  repeat walk_at "rd"
  refine i_mneg m2 o fun b H3 n3 s3 mb => ?_
  have m3 := m2.same s3
  have t3 := t2.same s3
  repeat walk_at "rd"
  refine i_mkL3 fun l3 H4 n4 h4 s4 => ?_
  have t4 := t3.same s4
  repeat walk_at "rd"
  refine i_mkL3 fun l4 H5 n5 h5 s5 => ?_
  refine i_neSs (xs := [k.1, k.2.2, k.2.1]) (ys := [k.1, k.2.2, k.2.1]) (s5 _ _ h4) h5 rfl (ok3 o.back) ?_
  have m5 := (m3.same s4).same s5
  have t5 := t4.same s5
  have b5 := (mb.same s4).same s5
  clear h1 h2 h4 h5 t1 t2 t3 t4 m2 m3 mb
  repeat walk_at "rd"
  refine i_mneg b5 o.back fun c H6 n6 s6 mc => ?_
  have m6 := m5.same s6
  repeat walk_at "rd"
  refine i_mne (k := k) (l := k) mc m6 o.ok o.ok ?_
  rw [decide_eq_true rfl]
  repeat walk_at "rd"
  refine i_mneg m6 o fun d H7 n7 s7 md => ?_
  have b7 := (b5.same s6).same s7
  have m7 := m6.same s7
  have t7 := (t5.same s6).same s7
  repeat walk_at "rd"
  refine i_mne (k := (k.1, k.2.2, k.2.1)) (l := (k.1, k.2.2, k.2.1)) md b7 o.back.ok o.back.ok ?_
  rw [decide_eq_true rfl]
  repeat walk_at "rd"
  refine i_meq m7 b7 o.ok o.back.ok ?_
  have nb : k ≠ (k.1, k.2.2, k.2.1) := fun z => o.n (congrArg (fun y : T3 => y.2.1) z).symm
  rw [decide_eq_false nb]
  have l1 := o.a.len
  have l2 := o.b.len
  have l3 := o.c.len
  have c1 : (": " : Str).length = 2 := by decide +kernel
  have c2 : (" to " : Str).length = 4 := by decide +kernel
  repeat walk_at "rd"
  refine i_ndec (fun _ => ?_) (fun z => (z rfl).elim)
  have q1 := rp_len o.a
  have q2 := rp_len o.b
  have q3 := rp_len o.c
  have c3 : ("Move(" : Str).length = 5 := by decide +kernel
  have c4 : (", " : Str).length = 2 := by decide +kernel
  have c5 : (")" : Str).length = 1 := by decide +kernel
  repeat walk_at "rd"
  refine ⟨⟨_, rfl⟩, ?_⟩
  repeat walk_at "rd"
  refine i_rlcTF (fun v => match v with | .str y => .str (reprText y) | v => v) t7 (by show 3 ≤ 1000; decide) (fun x => rfl) ?_ ?_
  · intro z H' Q' hz s' q'
    have hn : ∃ y : Str, z = V.str y ∧ Nm y := by
      simp only [List.mem_cons, List.mem_nil_iff, or_false] at hz
      rcases hz with rfl | rfl | rfl
      · exact ⟨_, rfl, o.a⟩
      · exact ⟨_, rfl, o.b⟩
      · exact ⟨_, rfl, o.c⟩
    obtain ⟨y, rfl, ny⟩ := hn
    dsimp only [List.map, wipe, List.set]
    repeat walk_at "rd"
    exact i_reprS (Nat.le_trans (rp_len ny) (by decide)) (q' _ (Same.refl _))
  intro w H8 n8 s8 h8
  refine i_join (ys := [reprText k.1, reprText k.2.1, reprText k.2.2]) h8 (by simp only [List.map, List.sum_cons, List.sum_nil, List.length_cons, List.length_nil]; omega) ?_
  rw [join3]
  repeat walk_at "rd"
  have er : mRep k = ("Move(" : Str) ++ (reprText k.1 ++ (", " : Str) ++ reprText k.2.1 ++ (", " : Str) ++ reprText k.2.2) ++ (")" : Str) := by
    unfold mRep
    simp only [app_assoc]
  refine i_ndec (fun _ => ?_) (fun z => (z (congrArg V.str er)).elim)
  have m8 := m7.same s8
  have t8 : H8 r = some (.tup [.str k.1, .str k.2.1, .str k.2.2]) := t7.same s8
  repeat walk_at "rd"
  refine i_meqT m8 (.base (.tup t8)) T.s_Move_tuple T.kt_Move_tuple ?_
  repeat walk_at "rd"
  refine i_meqT m8 (.base (.str _)) T.s_Move_str T.kt_Move_str ?_
  repeat walk_at "rd"
  refine i_listT t8 fun w2 H9 n9 h9 s9 => ?_
  have m9 := m8.same s9
  have t9 : H9 r = some (.tup [.str k.1, .str k.2.1, .str k.2.2]) := s9 _ _ t8
  refine i_meqT m9 (.base (.lst h9)) T.s_Move_list T.kt_Move_list ?_
  repeat walk_at "rd"
  refine i_mneT m9 (.base (.tup t9)) T.s_Move_tuple T.kt_Move_tuple ?_
  repeat walk_at "rd"
  refine i_mkL4 fun w3 H10 n10 h10 s10 => ?_
  repeat walk_at "rd"
  refine i_mkL4 fun w4 H11 n11 h11 s11 => ?_
  refine i_eqBs (bs := [false, false, false, true]) (s11 _ _ h10) h11 ?_
  exact q _ ((((((((((s1.trans s2).trans s3).trans s4).trans s5).trans s6).trans s7).trans s8).trans s9).trans s10).trans s11)
end Lw

namespace Ly
open PySem PySem.Spec PyProof.Rows L2
/-! ### put in order: insertion behind those that are not greater -/
section
variable {α : Type} {le : α → α → Bool}
theorem cut_le (tr : ∀ x y z, le x y = true → le y z = true → le x z = true) (x : α) : ∀ {xs : List α}, xs.Pairwise (fun a b => le a b = true) → (∀ y ∈ xs.take (xs.filter fun y => le y x).length, le y x = true) ∧ ∀ y ∈ xs.drop (xs.filter fun y => le y x).length, le y x = false
  | [], _ => ⟨fun _ h => (by cases h), fun _ h => (by cases h)⟩
  | h :: xs, p => by
    obtain ⟨p1, p2⟩ := List.pairwise_cons.mp p
    cases e : le h x with
    | true =>
      have ih := cut_le tr x p2
      rw [List.filter_cons, if_pos e, List.length_cons, List.take_succ_cons, List.drop_succ_cons]
      refine ⟨fun y hy => ?_, ih.2⟩
      rcases List.mem_cons.mp hy with rfl | hy
      · exact e
      · exact ih.1 y hy
    | false =>
      have none : (h :: xs).filter (fun y => le y x) = [] := by
        rw [List.filter_eq_nil_iff]
        intro y hy z
        rcases List.mem_cons.mp hy with rfl | hy
        · rw [e] at z
          cases z
        · rw [tr _ _ _ (p1 y hy) z] at e
          cases e
      rw [none]
      refine ⟨fun _ h => (by cases h), fun y hy => ?_⟩
      have hy' : y ∈ h :: xs := hy
      rcases List.mem_cons.mp hy' with rfl | hy
      · exact e
      · cases w : le y x with
        | false => rfl
        | true =>
          rw [tr _ _ _ (p1 y hy) w] at e
          cases e
theorem put_sorted (tr : ∀ x y z, le x y = true → le y z = true → le x z = true) (tot : ∀ x y, le x y = false → le y x = true) (x : α) {xs : List α} (p : xs.Pairwise (fun a b => le a b = true)) :
    (xs.take (xs.filter fun y => le y x).length ++ [x] ++ xs.drop (xs.filter fun y => le y x).length).Pairwise (fun a b => le a b = true) := by
  obtain ⟨c1, c2⟩ := cut_le tr x p
  have e := List.take_append_drop (xs.filter fun y => le y x).length xs
  have p' := p
  rw [← e] at p'
  obtain ⟨a1, a2, a3⟩ := List.pairwise_append.mp p'
  rw [List.append_assoc]
  refine List.pairwise_append.mpr ⟨a1, List.pairwise_cons.mpr ⟨fun y hy => tot _ _ (c2 y hy), a2⟩, fun y hy z hz => ?_⟩
  rcases List.mem_cons.mp hz with rfl | hz
  · exact c1 y hy
  · exact a3 y hy z hz
theorem put_perm (x : α) (n : Nat) (xs : List α) : (xs.take n ++ [x] ++ xs.drop n).Perm (xs ++ [x]) := by
  have e := List.take_append_drop n xs
  have h : (xs.take n ++ [x] ++ xs.drop n).Perm (xs.take n ++ xs.drop n ++ [x]) := by
    rw [List.append_assoc, List.append_assoc]
    exact List.Perm.append_left _ List.perm_append_comm
  rw [e] at h
  exact h
end
def le3 (a b : T3) : Bool := lexS leS (fun n m => decide (n ≤ m)) [a.1, a.2.1, a.2.2] [b.1, b.2.1, b.2.2]
theorem le3_lt3 (a b : T3) : le3 a b = !lt3 b a := by
  obtain ⟨a1, a2, a3⟩ := a
  obtain ⟨b1, b2, b3⟩ := b
  have e : le3 (a1, a2, a3) (b1, b2, b3) = if (a1 == b1) = true then (if (a2 == b2) = true then (if (a3 == b3) = true then true else leS a3 b3) else leS a2 b2) else leS a1 b1 := by
    unfold le3 lexS
    simp [Ob.lexAt]
  rw [e]
  unfold lt3 lexB
  dsimp only
  by_cases h1 : a1 = b1
  · subst h1
    by_cases h2 : a2 = b2
    · subst h2
      by_cases h3 : a3 = b3
      · subst h3
        simp [lexB, ltS_irr]
      · simp [h3, lexB, leS, ltS]
    · have h2' : ¬ b2 = a2 := fun z => h2 z.symm
      simp [h2, h2', lexB, leS, ltS]
  · have h1' : ¬ b1 = a1 := fun z => h1 z.symm
    simp [h1, h1', leS, ltS]
theorem le3_tr (x y z : T3) (h : le3 x y = true) (k : le3 y z = true) : le3 x z = true := by
  rw [le3_lt3] at *
  have a := swo_3.tr x y z (by simpa using h) (by simpa using k)
  simpa using a
theorem le3_tot (x y : T3) (h : le3 x y = false) : le3 y x = true := by
  rw [le3_lt3] at *
  have a := swo_3.asym y x (by simpa using h)
  rw [a]
  rfl
theorem lt3_tri (a b : T3) (h : lt3 a b = false) (k : lt3 b a = false) : a = b := by
  obtain ⟨a1, a2, a3⟩ := a
  obtain ⟨b1, b2, b3⟩ := b
  unfold lt3 lexB at h k
  dsimp only at h k
  by_cases h1 : a1 = b1
  · subst h1
    rw [if_pos rfl] at h k
    by_cases h2 : a2 = b2
    · subst h2
      rw [if_pos rfl] at h k
      by_cases h3 : a3 = b3
      · rw [h3]
      · have := ltS_tri _ _ h3 k
        rw [h] at this
        cases this
    · rw [if_neg h2] at h
      rw [if_neg (fun z => h2 z.symm)] at k
      have := ltS_tri _ _ h2 k
      rw [h] at this
      cases this
  · rw [if_neg h1] at h
    rw [if_neg (fun z => h1 z.symm)] at k
    have := ltS_tri _ _ h1 k
    rw [h] at this
    cases this
theorem sorted_eq {ks ls : List T3} (p : ks.Perm ls) (h1 : ks.Pairwise (fun a b => le3 a b = true)) (h2 : ls.Pairwise (fun a b => le3 a b = true)) : ks = ls :=
  List.Perm.eq_of_pairwise (fun a b _ _ h k => by
    rw [le3_lt3] at h k
    exact lt3_tri a b (by simpa using k) (by simpa using h)) h1 h2 p
/-- pointwise told references, as pairs -/
theorem lift {α : Type} {P : Addr → α → Prop} : ∀ {ks : List α} {ys : List V}, ys.length = ks.length → (∀ (i : Nat) v k, ys[i]? = some v → ks[i]? = some k → ∃ t, v = V.ref t ∧ P t k) → ∃ L : List (Addr × α), ys = refs L ∧ keys L = ks ∧ ∀ x ∈ L, P x.1 x.2
  | [], [], _, _ => ⟨[], rfl, rfl, fun _ h => by cases h⟩
  | k :: ks, y :: ys, h, g => by
    obtain ⟨t, rfl, pt⟩ := g 0 y k rfl rfl
    obtain ⟨L, rfl, rfl, hL⟩ := lift (ks := ks) (ys := ys) (by simpa using h) fun i v k' h1 h2 => g (i + 1) v k' h1 h2
    refine ⟨(t, k) :: L, rfl, rfl, fun x hx => ?_⟩
    rcases List.mem_cons.mp hx with rfl | hx
    · exact pt
    · exact hL x hx
  | [], _ :: _, h, _ => by cases h
  | _ :: _, [], h, _ => by cases h
theorem refs_at {α : Type} {L : List (Addr × α)} {i : Nat} {v : V} (h : (refs L)[i]? = some v) : ∃ x, L[i]? = some x ∧ v = V.ref x.1 := by
  unfold refs at h
  rw [List.getElem?_map] at h
  cases e : L[i]? with
  | none => rw [e] at h; cases h
  | some x =>
    rw [e] at h
    exact ⟨x, rfl, (Option.some.inj h).symm⟩
theorem keys_at {α : Type} {L : List (Addr × α)} {i : Nat} {x : Addr × α} (h : L[i]? = some x) : (keys L)[i]? = some x.2 := by
  unfold keys
  rw [List.getElem?_map, h]
  rfl
/-- the key of a tuple of three texts -/
def tripKey (H : Hp) (v : V) : T3 := match v with
  | .ref a => (match H a with
    | some (.tup [.str x, .str y, .str z]) => (x, y, z)
    | _ => (Str.empty, Str.empty, Str.empty))
  | _ => (Str.empty, Str.empty, Str.empty)
theorem TripAt.key {H : Hp} {a : Addr} {k : T3} (h : TripAt H a k) : tripKey H (.ref a) = k := by
  unfold tripKey
  have h' : H a = some (.tup [.str k.1, .str k.2.1, .str k.2.2]) := h
  simp [h']
section
variable {K : PySem.W.Frag} {H : Hp} {Q : VK} {r : Addr} {L : List (Addr × T3)}
/-- sorted(rows) -/
theorem i_sortedT (h : H r = some (.lst (refs L))) (t : Trips H L) (q : ∀ s H' (M : List (Addr × T3)), H s = none → Same H H' → H' s = some (.lst (refs M)) → Trips H' M → (keys M).Pairwise (fun a b => le3 a b = true) → (keys M).Perm (keys L) → Q (.ref s) H') : rSortedT3 K [.ref r] H Q := by
  have km : ∀ x ∈ L, tripKey H (.ref x.1) = x.2 := fun x hx => (t x hx).key
  have ek : (refs L).map (tripKey H) = keys L := by
    unfold refs keys
    rw [List.map_map]
    exact List.map_congr_left fun x hx => km x hx
  refine ⟨r, refs L, tripKey H, rfl, SqL.of h, fun x hx => ?_, fun ys p sd st np => ?_⟩
  · obtain ⟨y, hy, rfl⟩ := List.mem_map.mp hx
    refine ⟨y.1, rfl, ?_⟩
    rw [km y hy]
    exact t y hy
  · obtain ⟨M, rfl, hk, hM⟩ := lift (P := fun t k => TripAt H t k) (ks := ys.map (tripKey H)) (ys := ys) (by rw [List.length_map]) fun i v k h1 h2 => by
      have hv : v ∈ refs L := st.perm.mem_iff.mp (List.mem_of_getElem? h1)
      obtain ⟨y, hy, rfl⟩ := List.mem_map.mp hv
      rw [List.getElem?_map, h1] at h2
      refine ⟨y.1, rfl, ?_⟩
      have e2 := Option.some.inj h2
      rw [← e2]
      show TripAt H y.1 (tripKey H (V.ref y.1))
      rw [km y hy]
      exact t y hy
    refine q p _ M np (same_upd np) upd_same (fun x hx => (hM x hx).same (same_upd np)) ?_ ?_
    · rw [hk]
      refine List.pairwise_map.mpr ((show (refs M).Pairwise _ from sd).imp fun {a b} z => ?_)
      have z' : lt3 (tripKey H b) (tripKey H a) = false := z
      rw [le3_lt3, z']
      rfl
    · rw [hk, ← ek]
      exact st.perm.map _
end
end Ly

namespace Ly
open PySem PySem.Spec PyProof.Rows L2
def Movs (C : Addr) (H : Hp) (L : List (Addr × T3)) : Prop := ∀ x ∈ L, MvAt C H x.1 x.2
theorem Movs.same {C : Addr} {H H' : Hp} {L : List (Addr × T3)} (h : Movs C H L) (s : Same H H') : Movs C H' L := fun x hx => (h x hx).same s
theorem Movs.at_ {C : Addr} {H : Hp} {L : List (Addr × T3)} (h : Movs C H L) {i : Nat} {x : Addr × T3} (e : L[i]? = some x) : MvAt C H x.1 x.2 := h x (List.mem_of_getElem? e)
theorem Trips.at_ {H : Hp} {L : List (Addr × T3)} (h : Trips H L) {i : Nat} {x : Addr × T3} (e : L[i]? = some x) : TripAt H x.1 x.2 := h x (List.mem_of_getElem? e)
/-- the key of a move -/
def mvKey (H : Hp) (v : V) : T3 := match v with
  | .ref a => (match H a with
    | some (.ins _ _ [(_, t)]) => tripKey H t
    | _ => (Str.empty, Str.empty, Str.empty))
  | _ => (Str.empty, Str.empty, Str.empty)
theorem MvAt.key {C : Addr} {H : Hp} {a : Addr} {k : T3} (h : MvAt C H a k) : mvKey H (.ref a) = k := by
  obtain ⟨dx, tp, e, t⟩ := h
  unfold mvKey mflds at *
  simp only [e]
  exact t.key
theorem filt_refs {α : Type} (L : List (Addr × α)) (P : V → Bool) (p : Addr × α → Bool) (h : ∀ x ∈ L, P (.ref x.1) = p x) : (refs L).filter P = refs (L.filter p) := by
  unfold refs
  rw [List.filter_map]
  congr 1
  exact List.filter_congr fun x hx => h x hx
section
variable {H : Hp} {Q : VK} {E : XK} {C : Addr} {l : Addr} {M : List (Addr × T3)}
def spOrder (C : Addr) : Sp := fun vs H Q _ => ∃ (l : Addr) (M : List (Addr × T3)), vs = [.ref l] ∧ H l = some (.lst (refs M)) ∧ Movs C H M ∧ M.length ≤ 100 ∧ ∀ r H' N, H r = none → Same H H' → H' r = some (.lst (refs N)) → N.Perm M → (N.Pairwise fun a b => le3 a.2 b.2 = true) → Q (.ref r) H'
theorem i_order (h : H l = some (.lst (refs M))) (m : Movs C H M) (z : M.length ≤ 100) (q : ∀ r H' N, H r = none → Same H H' → H' r = some (.lst (refs N)) → N.Perm M → (N.Pairwise fun a b => le3 a.2 b.2 = true) → Q (.ref r) H') : spOrder C [.ref l] H Q E := ⟨l, M, rfl, h, m, z, q⟩
end
end Ly
namespace Lw
open PySem PySem.Spec PyProof.Rows L2 Ly
local macro_rules | `(tactic| walk_at "rd") => `(tactic| first
  | ((with_reducible refine' i_var ?hv ?_); (case hv => exact rfl))
  | with_reducible refine i_c ?_
  | with_reducible refine i_op ?_
  | with_reducible refine i_cons ?_
  | with_reducible refine i_nil ?_
  | with_reducible refine i_cb ?_
  | with_reducible refine i_call ?_
  | with_reducible refine i_I0 ?_
  | with_reducible refine i_add_i ?_
  | with_reducible refine i_sub_i ?_
  | with_reducible refine i_md_i (by first | decide | assumption) ?_
  | ((with_reducible refine' i_md_i ?c ?_); rotate_left)
  | ((with_reducible refine' i_mul_i ?c ?_); rotate_left)
  | with_reducible refine i_fd_i (by decide) ?_
  | ((with_reducible refine' i_fd_i ?c ?_); rotate_left)
  | with_reducible refine i_int ?_
  | with_reducible refine i_abs ?_
  | with_reducible refine i_max2 ?_
  | with_reducible refine i_min2 ?_
  | with_reducible refine i_gcd ?_
  | with_reducible refine i_seq ?_
  | with_reducible refine i_if ?_
  | with_reducible refine i_asg ?_
  | with_reducible refine i_ret ?_
  | with_reducible refine i_drop ?_
  | with_reducible refine i_next ?_
  | with_reducible refine i_un ?_
  | with_reducible refine i_U ?_
  | ((with_reducible refine i_gname ?_); dsimp only [List.set])
  | with_reducible refine i_test ?_
  | with_reducible refine i_not ?_
  | with_reducible refine i_or ?_
  | with_reducible refine i_and ?_
  | with_reducible refine i_tb ?_
  | with_reducible refine i_andV ?_
  | with_reducible refine i_orV ?_
  | with_reducible refine i_notV ?_
  | with_reducible refine i_ifx ?_
  | with_reducible refine i_ext ?_
  | with_reducible refine i_exf ?_
  | with_reducible refine i_exn ?_
  | with_reducible refine i_itt ?_
  | with_reducible refine i_itf ?_
  | with_reducible refine i_gsub ?_
  | with_reducible refine i_nt ?_
  | with_reducible refine i_tup ?_
  | with_reducible refine i_lst ?_
  | with_reducible refine i_nf ?_
  | with_reducible refine i_isint ?_
  | ((with_reducible refine' i_top ?r ?_); (case r => walk_at "hp"))
  | ((with_reducible refine' i_bot ?r ?_); (case r => walk_at "hp"))
  | with_reducible refine i_fld ?_
  | with_reducible refine i_sfld ?_
  | with_reducible refine i_pp ?_
  | with_reducible refine i_meth ?_
  | with_reducible refine i_smeth ?_
  | with_reducible refine i_make ?_
  | with_reducible refine i_sl ?_
  | with_reducible refine i_noPart ?_
  | with_reducible refine i_part ?_
  | with_reducible refine i_smethK ?_
  | with_reducible refine i_sk1 ?_
  | with_reducible refine i_makeK ?_
  | with_reducible refine i_methK ?_
  | with_reducible refine i_mk11 ?_
  | ((with_reducible refine' i_rmk ?r ?h1 ?h2 ?_); (case r => walk_at "hp"); (case h1 => decide +kernel); (case h2 => decide +kernel))
  | with_reducible refine i_tpar ?_
  | ((with_reducible refine i_rpar ?_); dsimp only [List.set])
  | with_reducible refine i_eq_s rfl ?_
  | with_reducible refine i_ne_s rfl ?_
  | ((with_reducible refine' i_rtop ?r ?c ?n ?_); (case r => walk_at "hp"); (case c => assumption); (case n => assumption))
  | ((with_reducible refine' i_rbot ?r ?c ?n ?_); (case r => walk_at "hp"); (case c => assumption); (case n => assumption))
  | ((with_reducible refine' i_rpp ?r ?_); (case r => walk_at "hp"))
  | ((with_reducible refine' i_rmeth ?r ?h1 ?h2 ?_); (case r => walk_at "hp"); (case h1 => decide +kernel); (case h2 => decide +kernel))
  | ((with_reducible refine' i_ix_l ?hp ?ha ?_); (case hp => walk_at "hp"); (case ha => exact rfl))
  | ((with_reducible refine' i_len_l ?hp ?_); (case hp => walk_at "hp"))
  | ((with_reducible refine' i_ix_f0 ?hp ?_); (case hp => walk_at "hp"))
  | ((with_reducible refine' i_ix_f1 ?hp ?_); (case hp => walk_at "hp"))
  | ((with_reducible refine' i_ix_t ?hp ?ha ?_); (case hp => walk_at "hp"); (case ha => exact rfl)))
local macro_rules | `(tactic| walk_at "hp") => `(tactic| first
  | assumption
  | exact upd_same
  | exact SqL.of (by assumption)
  | (refine' Dr.tup (by assumption) ?hq; (case hq => walk_at "hp"))
  | (refine' FrL.same (by assumption) ?hq; (case hq => walk_at "hp"))
  | (refine' FracAt.same (by assumption) ?hq; (case hq => walk_at "hp"))
  | (refine' FracAt.nl (by assumption) ?hq; (case hq => walk_at "hp"))
  | (refine' RatAt.nl (by assumption) ?hq; (case hq => walk_at "hp"))
  | (refine' Num.nl (by assumption) ?hq; (case hq => walk_at "hp"))
  | (refine' FracAt.pk (by assumption) ?hq; (case hq => walk_at "hp"))
  | (refine' RatAt.pk (by assumption) ?hq; (case hq => walk_at "hp"))
  | (refine' Num.pk (by assumption) ?hq; (case hq => walk_at "hp"))
  | (refine' Dr.keep (by assumption) _ _ (by assumption) ?hq; (case hq => walk_at "hp"))
  | (refine' (show Same _ _ by assumption) _ _ ?hq; (case hq => walk_at "hp"))
  | (refine' RatAt.same (by assumption) ?hq; (case hq => walk_at "hp"))
  | (refine' Num.same (by assumption) ?hq; (case hq => walk_at "hp")))
local macro_rules | `(tactic| walk_at "sm") => `(tactic| first
  | assumption
  | exact Same.refl _
  | (refine' Same.kl (by assumption) (by assumption) ?aa; (case aa => walk_at "sm"))
  | (refine' Same.trans ?aa (by assumption); (case aa => walk_at "sm")))
local macro_rules | `(tactic| walk_at "dr") => `(tactic| first
  | assumption
  | (refine' Dr.same ?aa (by assumption); (case aa => walk_at "dr"))
  | (refine' Dr.trans ?aa (by assumption); (case aa => walk_at "dr")))

local macro_rules | `(tactic| walk_at "rd") => `(tactic| first
  | ((with_reducible refine' i_mpp ?r ?_); (case r => walk_at "hp"))
  | with_reducible refine i_fmt ?_
  | with_reducible refine i_fmtR ?_
  | with_reducible refine i_forT ?_
  | with_reducible refine i_forL ?_
  | with_reducible refine i_forE ?_
  | with_reducible refine i_sl ?_
  | with_reducible refine i_noPart ?_
  | with_reducible refine i_part ?_
  | with_reducible refine i_tM1 ?_
  | with_reducible refine i_tBM ?_
  | with_reducible refine i_makeKg ?_
  | ((with_reducible refine' i_add_s ?hz ?_); (case hz => (refine sl_of ?_; (try simp only [app_len]); omega)))
  | with_reducible refine i_lct ?_
  | ((with_reducible refine' i_mtx ?r ?o ?_); (case r => walk_at "hp"); (case o => assumption)))
local macro_rules | `(tactic| walk_at "hp") => `(tactic| first
  | (refine' MvAt.same (by assumption) ?hq; (case hq => walk_at "sm"))
  | (refine' TripAt.same (by assumption) ?hq; (case hq => walk_at "sm"))
  | (refine' Trips.same (by assumption) ?hq; (case hq => walk_at "sm")))

variable {W : Wd} {a : Ad}
theorem k_law_in_order (T : Txt W.K W.mg a) : Cl W 3 "_law_in_order" (spOrder a.Move) := by
  refine cl_of' T.d_law_in_order sc_law_in_order bd_law_in_order (fun vs H Q E ⟨l, M, h, _⟩ => by rw [h]; rfl) fun f cdv A outer s0 H vs Q E hr h => ?_
  obtain ⟨l, M, rfl, hl, mv, hz, q⟩ := h
  refine ⟨_, (pss_cons (ps_set (i := 1) sc_law_in_order.nd rfl (Or.inl rfl) (pe_lst pa_nil)) (pss_cons (ps_for PassesOwn.never rfl (pi_listK (K := W.K) rfl (pv 0)) (pg_name (i := 2) sc_law_in_order.nd rfl (Or.inr rfl)) (pss_cons (ps_set (i := 3) sc_law_in_order.nd rfl (Or.inl rfl) (pe_callB (r := Ly.rLen W.K) call_lenU (by rfl) T.b_len (by decide +kernel) (pa_cons (pe_lc (own := [("_law_mate", 4)]) (g := (gName 4)) (tt := _) rfl sc_law_in_order.nd (pi_listK (K := W.K) rfl (pv 1)) (blkOk_by (N := N_law_in_order) (sc := defScope s_law_in_order) (by decide +kernel)) (fun _ _ _ _ _ => (pg_name (i := 4) sc_law_in_order.nd rfl (Or.inl rfl))) (fun _ _ _ _ _ => (pts_one (pt_cmpR (le_m (mt_le T) hr (by decide)) (pv 4) (pv 2) (nomark _)))) (fun _ _ _ _ _ => (pv 4))) pa_nil))) (pss_one (ps_set (i := 1) sc_law_in_order.nd rfl (Or.inl rfl) (pe_op op_addU (pe_op op_addU (pe_slice (r := rSlL W.K) sl_list (pv 1) po_none (po_some (pv 3))) (pe_lst (pa_cons (pv 2) pa_nil))) (pe_slice (r := rSlL W.K) sl_list (pv 1) (po_some (pv 3)) po_none)))))) (pss_one (ps_ret (pv 1))))), ?_⟩
  refine i_start (σ' := [some (V.ref l), none, none, none, none]) rfl ?_
  repeat walk_at "rd"
  refine i_mkL (by decide) fun f0 H1 n1 h1 s1 => ?_
  repeat walk_at "rd"
  refine i_rforL (xs := refs M) (SqL.of (s1 _ _ hl)) (fun i σ H' => ∃ (v1 v2 v3 : Option V) (fa : Addr) (N : List (Addr × T3)), σ = [some (.ref l), some (.ref fa), v1, v2, v3] ∧ Same H H' ∧ H fa = none ∧ H' fa = some (.lst (refs N)) ∧ N.Perm (M.take i) ∧ N.Pairwise fun a b => le3 a.2 b.2 = true)
    ⟨_, _, _, f0, [], rfl, s1, n1, h1, List.Perm.refl _, List.Pairwise.nil⟩ (fun i σ H' _ ⟨_, _, _, _, _, _, s, _⟩ => SqL.of (s _ _ hl)) ?_ ?_
  · rintro i z σ H2 hi ⟨v1, v2, v3, fa, N, rfl, s2, nf, hf, pm, so⟩
    obtain ⟨x, hx, rfl⟩ := refs_at hi
    have hxM : x ∈ M := List.mem_of_getElem? hx
    have hlt : i < M.length := (List.getElem?_eq_some_iff.mp hx).1
    have lN : N.length ≤ 100 := by
      rw [pm.length_eq, List.length_take]
      omega
    have mN : ∀ y ∈ N, MvAt a.Move H2 y.1 y.2 := fun y hy => (mv y (List.mem_of_mem_take (pm.mem_iff.mp hy))).same s2
    have mx := (mv x hxM).same s2
    dsimp only [List.set]
    repeat walk_at "rd"
    refine i_lcl ?_
    repeat walk_at "rd"
    refine i_rlcF (xs := refs N) (fun v => le3 (mvKey H2 v) x.2) _root_.id (SqL.of hf) (fun H' s => SqL.of (s _ _ hf)) (by rw [refs_len]; omega) (fun x => rfl) ?_ ?_ ?_
    · intro y H' R hy s hR
      obtain ⟨u, hu, rfl⟩ := List.mem_map.mp hy
      have mu := mN u hu
      dsimp only [List.map, wipe, List.set]
      repeat walk_at "rd"
      refine i_mcmp (mu.same s) (mx.same s) ?_
      repeat walk_at "rd"
      have e : le3 (mvKey H2 (V.ref u.1)) x.2 = le3 u.2 x.2 := by rw [mu.key]
      rw [e] at hR
      exact hR
    · intro y H' Q' hy hP s q'
      dsimp only [List.map, wipe, List.set]
      repeat walk_at "rd"
      exact q' _ (Same.refl _)
    intro r3 H3 n3 s3 h3
    rw [List.map_id, filt_refs N _ (fun y => le3 y.2 x.2) fun y hy => by rw [(mN y hy).key]] at h3
    repeat walk_at "rd"
    rw [refs_len]
    have hc := List.length_filter_le (fun y : Addr × T3 => le3 y.2 x.2) N
    have srt := put_sorted (le := fun a b : Addr × T3 => le3 a.2 b.2) (fun a b c h k => le3_tr _ _ _ h k) (fun a b h => le3_tot _ _ h) x so
    have prm := put_perm x (N.filter fun y => le3 y.2 x.2).length N
    generalize (N.filter fun y : Addr × T3 => le3 y.2 x.2).length = c at hc srt prm ⊢
    refine ⟨_, rfl, ?_⟩
    refine i_slTo (s3 _ _ hf) (by rw [refs_len]; exact hc) fun r4 H4 n4 h4 s4 => ?_
    repeat walk_at "rd"
    refine i_mkL1 fun r5 H5 n5 h5 s5 => ?_
    refine i_catL (s5 _ _ h4) h5 (by rw [List.length_take, refs_len]; show _ + 1 ≤ 1000; omega) fun r6 H6 n6 h6 s6 => ?_
    repeat walk_at "rd"
    refine ⟨_, rfl, ?_⟩
    repeat walk_at "rd"
    refine i_slFrom (s6 _ _ (s5 _ _ (s4 _ _ (s3 _ _ hf)))) (by rw [refs_len]; exact hc) fun r7 H7 n7 h7 s7 => ?_
    refine i_catL (s7 _ _ h6) h7 (by rw [List.length_append, List.length_take, List.length_drop, refs_len]; show _ + 1 + _ ≤ 1000; omega) fun r8 H8 n8 h8 s8 => ?_
    repeat walk_at "rd"
    have sall : Same H H8 := (((((s2.trans s3).trans s4).trans s5).trans s6).trans s7).trans s8
    refine ⟨_, _, _, r8, N.take c ++ [x] ++ N.drop c, rfl, sall, Same.free (((((s2.trans s3).trans s4).trans s5).trans s6).trans s7) n8, ?_, ?_, srt⟩
    · have e : (refs N).take c ++ [V.ref x.1] ++ (refs N).drop c = refs (N.take c ++ [x] ++ N.drop c) := by
        unfold refs
        simp [List.map_take, List.map_drop]
      rw [← e]
      exact h8
    · rw [List.take_add_one, hx]
      exact prm.trans (List.Perm.append_right [x] pm)
  · rintro σ H2 ⟨v1, v2, v3, fa, N, rfl, s2, nf, hf, pm, so⟩
    repeat walk_at "rd"
    rw [refs_len, List.take_length] at pm
    exact q fa H2 N nf s2 hf pm so
end Lw
namespace Ly
open PySem PySem.Spec PyProof.Rows L2
def spRight : Sp := fun vs H Q _ => ∃ p : Addr, vs = [.ref p] ∧ Pot H p ∧ ∀ H', Dr p H H' → Q (.bl true) H'
theorem i_right {H : Hp} {Q : VK} {E : XK} {p : Addr} (h : Pot H p) (q : ∀ H', Dr p H H' → Q (.bl true) H') : spRight [.ref p] H Q E := ⟨p, rfl, h, q⟩
theorem Movs.pk {p : Addr} {C : Addr} {H H' : Hp} {L : List (Addr × T3)} (h : Movs C H L) (d : Dr p H H') : Movs C H' L := fun x hx => (h x hx).pk d
theorem i_ixRef {K : PySem.W.Frag} {H : Hp} {Q : VK} {l : Addr} {L : List (Addr × T3)} {i : Nat} {x : Addr × T3} (h : H l = some (.lst (refs L))) (e : L[i]? = some x) (q : Q (.ref x.1) H) : rIx K (.ref l) (.int (i : Int)) H Q :=
  i_ix_l (v := .ref x.1) h (atI_nat (by
    unfold refs
    rw [List.getElem?_map, e]
    rfl)) q
theorem keys_get {L M : List (Addr × T3)} (h : keys L = keys M) {i : Nat} {x : Addr × T3} (e : L[i]? = some x) : ∃ y, M[i]? = some y ∧ y.2 = x.2 := by
  have e2 := keys_at e
  rw [h] at e2
  unfold keys at e2
  rw [List.getElem?_map] at e2
  cases w : M[i]? with
  | none => rw [w] at e2; cases e2
  | some y =>
    rw [w] at e2
    exact ⟨y, rfl, Option.some.inj e2⟩
end Ly

namespace Lw
open PySem PySem.Spec PyProof.Rows L2 Ly
local macro_rules | `(tactic| walk_at "rd") => `(tactic| first
  | ((with_reducible refine' i_var ?hv ?_); (case hv => exact rfl))
  | with_reducible refine i_c ?_
  | with_reducible refine i_op ?_
  | with_reducible refine i_cons ?_
  | with_reducible refine i_nil ?_
  | with_reducible refine i_cb ?_
  | with_reducible refine i_call ?_
  | with_reducible refine i_I0 ?_
  | with_reducible refine i_add_i ?_
  | with_reducible refine i_sub_i ?_
  | with_reducible refine i_md_i (by first | decide | assumption) ?_
  | ((with_reducible refine' i_md_i ?c ?_); rotate_left)
  | ((with_reducible refine' i_mul_i ?c ?_); rotate_left)
  | with_reducible refine i_fd_i (by decide) ?_
  | ((with_reducible refine' i_fd_i ?c ?_); rotate_left)
  | with_reducible refine i_int ?_
  | with_reducible refine i_abs ?_
  | with_reducible refine i_max2 ?_
  | with_reducible refine i_min2 ?_
  | with_reducible refine i_gcd ?_
  | with_reducible refine i_seq ?_
  | with_reducible refine i_if ?_
  | with_reducible refine i_asg ?_
  | with_reducible refine i_ret ?_
  | with_reducible refine i_drop ?_
  | with_reducible refine i_next ?_
  | with_reducible refine i_un ?_
  | with_reducible refine i_U ?_
  | ((with_reducible refine i_gname ?_); dsimp only [List.set])
  | with_reducible refine i_test ?_
  | with_reducible refine i_not ?_
  | with_reducible refine i_or ?_
  | with_reducible refine i_and ?_
  | with_reducible refine i_tb ?_
  | with_reducible refine i_andV ?_
  | with_reducible refine i_orV ?_
  | with_reducible refine i_notV ?_
  | with_reducible refine i_ifx ?_
  | with_reducible refine i_ext ?_
  | with_reducible refine i_exf ?_
  | with_reducible refine i_exn ?_
  | with_reducible refine i_itt ?_
  | with_reducible refine i_itf ?_
  | with_reducible refine i_gsub ?_
  | with_reducible refine i_nt ?_
  | with_reducible refine i_tup ?_
  | with_reducible refine i_lst ?_
  | with_reducible refine i_nf ?_
  | with_reducible refine i_isint ?_
  | ((with_reducible refine' i_top ?r ?_); (case r => walk_at "hp"))
  | ((with_reducible refine' i_bot ?r ?_); (case r => walk_at "hp"))
  | with_reducible refine i_fld ?_
  | with_reducible refine i_sfld ?_
  | with_reducible refine i_pp ?_
  | with_reducible refine i_meth ?_
  | with_reducible refine i_smeth ?_
  | with_reducible refine i_make ?_
  | with_reducible refine i_sl ?_
  | with_reducible refine i_noPart ?_
  | with_reducible refine i_part ?_
  | with_reducible refine i_smethK ?_
  | with_reducible refine i_sk1 ?_
  | with_reducible refine i_makeK ?_
  | with_reducible refine i_methK ?_
  | with_reducible refine i_mk11 ?_
  | ((with_reducible refine' i_rmk ?r ?h1 ?h2 ?_); (case r => walk_at "hp"); (case h1 => decide +kernel); (case h2 => decide +kernel))
  | with_reducible refine i_tpar ?_
  | ((with_reducible refine i_rpar ?_); dsimp only [List.set])
  | with_reducible refine i_eq_s rfl ?_
  | with_reducible refine i_ne_s rfl ?_
  | ((with_reducible refine' i_rtop ?r ?c ?n ?_); (case r => walk_at "hp"); (case c => assumption); (case n => assumption))
  | ((with_reducible refine' i_rbot ?r ?c ?n ?_); (case r => walk_at "hp"); (case c => assumption); (case n => assumption))
  | ((with_reducible refine' i_rpp ?r ?_); (case r => walk_at "hp"))
  | ((with_reducible refine' i_rmeth ?r ?h1 ?h2 ?_); (case r => walk_at "hp"); (case h1 => decide +kernel); (case h2 => decide +kernel))
  | ((with_reducible refine' i_ix_l ?hp ?ha ?_); (case hp => walk_at "hp"); (case ha => exact rfl))
  | ((with_reducible refine' i_len_l ?hp ?_); (case hp => walk_at "hp"))
  | ((with_reducible refine' i_ix_f0 ?hp ?_); (case hp => walk_at "hp"))
  | ((with_reducible refine' i_ix_f1 ?hp ?_); (case hp => walk_at "hp"))
  | ((with_reducible refine' i_ix_t ?hp ?ha ?_); (case hp => walk_at "hp"); (case ha => exact rfl)))
local macro_rules | `(tactic| walk_at "hp") => `(tactic| first
  | assumption
  | exact upd_same
  | exact SqL.of (by assumption)
  | (refine' Dr.tup (by assumption) ?hq; (case hq => walk_at "hp"))
  | (refine' FrL.same (by assumption) ?hq; (case hq => walk_at "hp"))
  | (refine' FracAt.same (by assumption) ?hq; (case hq => walk_at "hp"))
  | (refine' FracAt.nl (by assumption) ?hq; (case hq => walk_at "hp"))
  | (refine' RatAt.nl (by assumption) ?hq; (case hq => walk_at "hp"))
  | (refine' Num.nl (by assumption) ?hq; (case hq => walk_at "hp"))
  | (refine' FracAt.pk (by assumption) ?hq; (case hq => walk_at "hp"))
  | (refine' RatAt.pk (by assumption) ?hq; (case hq => walk_at "hp"))
  | (refine' Num.pk (by assumption) ?hq; (case hq => walk_at "hp"))
  | (refine' Dr.keep (by assumption) _ _ (by assumption) ?hq; (case hq => walk_at "hp"))
  | (refine' (show Same _ _ by assumption) _ _ ?hq; (case hq => walk_at "hp"))
  | (refine' RatAt.same (by assumption) ?hq; (case hq => walk_at "hp"))
  | (refine' Num.same (by assumption) ?hq; (case hq => walk_at "hp")))
local macro_rules | `(tactic| walk_at "sm") => `(tactic| first
  | assumption
  | exact Same.refl _
  | (refine' Same.kl (by assumption) (by assumption) ?aa; (case aa => walk_at "sm"))
  | (refine' Same.trans ?aa (by assumption); (case aa => walk_at "sm")))
local macro_rules | `(tactic| walk_at "dr") => `(tactic| first
  | assumption
  | (refine' Dr.same ?aa (by assumption); (case aa => walk_at "dr"))
  | (refine' Dr.trans ?aa (by assumption); (case aa => walk_at "dr")))

local macro_rules | `(tactic| walk_at "rd") => `(tactic| first
  | ((with_reducible refine' i_mpp ?r ?_); (case r => walk_at "hp"))
  | with_reducible refine i_fmt ?_
  | with_reducible refine i_fmtR ?_
  | with_reducible refine i_forT ?_
  | with_reducible refine i_forL ?_
  | with_reducible refine i_forE ?_
  | with_reducible refine i_sl ?_
  | with_reducible refine i_noPart ?_
  | with_reducible refine i_part ?_
  | with_reducible refine i_tM1 ?_
  | with_reducible refine i_tBM ?_
  | with_reducible refine i_makeKg ?_
  | ((with_reducible refine' i_add_s ?hz ?_); (case hz => (refine sl_of ?_; (try simp only [app_len]); omega)))
  | with_reducible refine i_lct ?_
  | ((with_reducible refine' i_mtx ?r ?o ?_); (case r => walk_at "hp"); (case o => assumption)))
local macro_rules | `(tactic| walk_at "hp") => `(tactic| first
  | (refine' MvAt.same (by assumption) ?hq; (case hq => walk_at "sm"))
  | (refine' TripAt.same (by assumption) ?hq; (case hq => walk_at "sm"))
  | (refine' Trips.same (by assumption) ?hq; (case hq => walk_at "sm")))

variable {W : Wd} {a : Ad}
theorem rc_let : ∀ c, c < 26 → ∀ q ∈ [34, 39], PySem.Builtin.Str.reprChar q (97 + c) = [97 + c] := by decide +kernel
theorem rc_fold (q : Nat) (hq : q ∈ [34, 39]) : ∀ (l : List Nat) (acc : Array Nat), (∀ c ∈ l, 97 ≤ c ∧ c ≤ 122) → (∀ c ∈ acc, c < 0x110000) → ∀ c ∈ l.foldl (fun out c => out ++ (PySem.Builtin.Str.reprChar q c).toArray) acc, c < 0x110000
  | [], acc, _, h => h
  | d :: l, acc, hl, h => by
    rw [List.foldl_cons]
    refine rc_fold q hq l _ (fun c hc => hl c (List.mem_cons_of_mem _ hc)) fun c hc => ?_
    have hd := hl d (List.mem_cons_self ..)
    have e := rc_let (d - 97) (by omega) q hq
    rw [show 97 + (d - 97) = d by omega] at e
    rw [e, Array.mem_append] at hc
    rcases hc with hc | hc
    · exact h c hc
    · simp at hc
      omega
theorem rt_ok {x : Str} (n : Nm x) : PyData.strOk (reprText x) = true := by
  unfold PyData.strOk
  rw [Array.all_eq_true']
  intro c hc
  refine decide_eq_true ?_
  have hq : reprQuote x ∈ [34, 39] := by
    unfold reprQuote
    split <;> decide
  have hq2 : reprQuote x < 0x110000 := by
    simp only [List.mem_cons, List.mem_nil_iff, or_false] at hq
    omega
  unfold reprText at hc
  rw [Array.mem_push] at hc
  rcases hc with hc | hc
  · rw [← Array.foldl_toList] at hc
    exact rc_fold _ hq x.cps.toList _ n.abc (fun d hd => by simp at hd; omega) c hc
  · omega
theorem rep_ok {k : T3} (o : OkM k) : PyData.strOk (mRep k) = true :=
  ok_app (ok_app (ok_app (ok_app (ok_app (ok_app (by decide +kernel) (rt_ok o.a)) (by decide +kernel)) (rt_ok o.b)) (by decide +kernel)) (rt_ok o.c)) (by decide +kernel)
theorem k_law_right (T : Txt W.K W.mg a) : ClG W 10 "_law_right" spRight := by
  refine clg_of T.d_law_right sc_law_right bd_law_right (fun vs H Q E ⟨p, h, _⟩ => by rw [h]; rfl) fun f cdv A outer s0 H vs Q E hr hgd h => ?_
  obtain ⟨p, rfl, hp, q⟩ := h
  refine ⟨_, (pss_cons (ps_set (i := 1) sc_law_right.nd rfl (Or.inl rfl) (pe_cl (k_law_drawn T) hr (by decide) rfl (pa_cons (pv 0) (pa_cons (pe_op op_addU pe_int (pe_cl (k_law_draw T) hr (by decide) rfl (pa_cons (pv 0) (pa_cons pe_int pa_nil)))) pa_nil)))) (pss_cons (ps_setLc (i := 2) (own := [("_law_row", 7)]) (g := (gName 7)) (tt := tYes) rfl sc_law_right.nd rfl rfl (sw_true rfl rfl rfl (by decide +kernel)) (pi_listK (K := W.K) rfl (pv 1)) (blkOk_by (N := N_law_right) (sc := defScope s_law_right) (by decide +kernel)) (fun _ _ _ _ _ => (pg_name (i := 7) sc_law_right.nd rfl (Or.inl rfl))) (fun _ _ _ _ _ => pts_nil) (fun _ _ _ _ _ => (pe_cl (k_law_made T) hr (by decide) rfl (pa_cons (pv 0) (pa_cons (pv 7) pa_nil))))) (pss_cons (ps_setLc (i := 3) (own := [("_law_row", 7)]) (g := (gName 7)) (tt := tYes) rfl sc_law_right.nd rfl rfl (sw_true rfl rfl rfl (by decide +kernel)) (pi_listK (K := W.K) rfl (pv 1)) (blkOk_by (N := N_law_right) (sc := defScope s_law_right) (by decide +kernel)) (fun _ _ _ _ _ => (pg_name (i := 7) sc_law_right.nd rfl (Or.inl rfl))) (fun _ _ _ _ _ => pts_nil) (fun _ _ _ _ _ => (pe_cl (k_law_made T) hr (by decide) rfl (pa_cons (pv 0) (pa_cons (pv 7) pa_nil))))) (pss_cons (ps_for PassesOwn.never rfl (pi_enumK (K := W.K) rfl (by rfl) T.b_enumerate (pa_cons (pv 2) pa_nil)) (pg_tupK (K := W.K) (n := 2) rfl rfl (pgs_cons (pg_name (i := 5) sc_law_right.nd rfl (Or.inl rfl)) (pgs_cons (pg_name (i := 6) sc_law_right.nd rfl (Or.inl rfl)) pgs_nil))) (pss_cons (ps_if (PW.pt (pw_or (pt_not (pt_val (pe_cl (k_law_alone_right T) hr (by decide) rfl (pa_cons (pv 6) (pa_cons (pe_ix (r := rIx W.K) ix_U (pv 1) (pv 5) (fun _ _ => rfl)) pa_nil))))) (pw_or1 (pt_cmpR (op_neN (mt_eq T) T.o_Move T.x_Move_ne hr (by decide)) (pv 6) (pe_ix (r := rIx W.K) ix_U (pv 3) (pv 5) (fun _ _ => rfl)) (nomark _))))) (pss_one (ps_ret pe_bl)) pss_nil) (pss_one (ps_for PassesOwn.never rfl (pi_enumK (K := W.K) rfl (by rfl) T.b_enumerate (pa_cons (pv 3) pa_nil)) (pg_tupK (K := W.K) (n := 2) rfl rfl (pgs_cons (pg_name (i := 8) sc_law_right.nd rfl (Or.inl rfl)) (pgs_cons (pg_name (i := 9) sc_law_right.nd rfl (Or.inl rfl)) pgs_nil))) (pss_one (ps_if (pt_not (pt_val (pe_clG (k_law_two_right T) hr hgd (by decide) rfl (pa_cons (pv 6) (pa_cons (pv 9) (pa_cons (pe_ix (r := rIx W.K) ix_U (pv 1) (pv 5) (fun _ _ => rfl)) (pa_cons (pe_ix (r := rIx W.K) ix_U (pv 1) (pv 8) (fun _ _ => rfl)) pa_nil))))))) (pss_one (ps_ret pe_bl)) pss_nil)))))) (pss_cons (ps_setLc (i := 4) (own := [("_law_one", 6)]) (g := (gName 6)) (tt := tYes) rfl sc_law_right.nd rfl rfl (sw_true rfl rfl rfl (by decide +kernel)) (pi_listK (K := W.K) rfl (pe_cl (k_law_in_order T) hr (by decide) rfl (pa_cons (pv 2) pa_nil))) (blkOk_by (N := N_law_right) (sc := defScope s_law_right) (by decide +kernel)) (fun _ _ _ _ _ => (pg_name (i := 6) sc_law_right.nd rfl (Or.inl rfl))) (fun _ _ _ _ _ => pts_nil) (fun _ _ _ _ _ => (pe_tup (pa_cons (pe_pp T.o_Move.cls (pp_task T) hr (by decide) (pv 6) rfl) (pa_cons (pe_pp T.o_Move.cls (pp_start T) hr (by decide) (pv 6) rfl) (pa_cons (pe_pp T.o_Move.cls (pp_goal T) hr (by decide) (pv 6) rfl) pa_nil)))))) (pss_one (ps_ret (pe_and (pe_cmpR (r := rEqU W.K) (op_eqU hr.units) (pv 4) (pe_callB (r := rSortedT3 W.K) cr_sortedT3 (by rfl) T.b_sorted (by decide +kernel) (pa_cons (pv 1) pa_nil)) (nomark _)) (pe_one (pe_cmpR (r := rEqU W.K) (op_eqU hr.units) (pe_lc (own := [("_law_one", 6)]) (g := (gName 6)) (tt := tYes) rfl sc_law_right.nd (pi_listK (K := W.K) rfl (pv 2)) (blkOk_by (N := N_law_right) (sc := defScope s_law_right) (by decide +kernel)) (fun _ _ _ _ _ => (pg_name (i := 6) sc_law_right.nd rfl (Or.inl rfl))) (fun _ _ _ _ _ => pts_nil) (fun _ _ _ _ _ => (pe_callB (repr_m (mt_repr T) hr (by decide)) (by rfl) T.b_repr (by decide +kernel) (pa_cons (pv 6) pa_nil)))) (pe_lc (own := [("_law_one", 6)]) (g := (gName 6)) (tt := tYes) rfl sc_law_right.nd (pi_listK (K := W.K) rfl (pv 3)) (blkOk_by (N := N_law_right) (sc := defScope s_law_right) (by decide +kernel)) (fun _ _ _ _ _ => (pg_name (i := 6) sc_law_right.nd rfl (Or.inl rfl))) (fun _ _ _ _ _ => pts_nil) (fun _ _ _ _ _ => (pe_callB (repr_m (mt_repr T) hr (by decide)) (by rfl) T.b_repr (by decide +kernel) (pa_cons (pv 6) pa_nil)))) (nomark _))))))))))), ?_⟩
  refine i_start (σ' := [some (V.ref p), none, none, none, none, none, none, none, none, none]) rfl ?_
  repeat walk_at "rd"
  refine i_draw hp (by decide) (sz_lit (by decide)) fun d H1 d0 d1 k1 => ?_
  repeat walk_at "rd"
  refine i_rows k1.pot' (by omega) (by omega) fun rw_ H2 L nr k2 hrw tr hL okL => ?_
  repeat walk_at "rd"
  have hL9 : L.length ≤ 10 := by omega
  have pr : rw_ ≠ p := fresh_ne k1.pot' nr
  have k12 : Dr p H H2 := k1.trans k2
  clear k1 k2 nr
  refine i_lcl ?_
  repeat walk_at "rd"
  refine i_rlcLp (fun i H' v => ∀ k, (keys L)[i]? = some k → ∃ t, v = V.ref t ∧ MvAt a.Move H' t k) k12.pot' hrw pr (by rw [refs_len]; omega) (fun i H1 H2 v s g k hk => by
    obtain ⟨t, e, m⟩ := g k hk
    exact ⟨t, e, m.nl s⟩) (fun x => rfl) ?_ ?_
  · intro i x H' Q' hx k' q'
    obtain ⟨y, hy, rfl⟩ := refs_at hx
    dsimp only [List.map, wipe, List.set]
    repeat walk_at "rd"
    refine i_mk k'.pot' ((tr.at_ hy).pk k') (okL y (List.mem_of_getElem? hy)) fun m H3 k3 hm => ?_
    exact q' _ H3 k3 fun k hk => by
      rw [keys_at hy] at hk
      cases hk
      exact ⟨m, rfl, hm⟩
  intro r3 H3 ys nr3 k3 hr3 hys g3
  obtain ⟨M, rfl, hkM, mM⟩ := lift (P := fun t k => MvAt a.Move H3 t k) (ks := keys L) (ys := ys) (by rw [hys, refs_len, keys_len]) fun i v k h1 h2 => g3 i v h1 k h2
  clear g3 hys
  repeat walk_at "rd"
  have tr3 := tr.pk k3
  have hrw3 := k3.keep _ _ pr hrw
  have pr3 : r3 ≠ p := fresh_ne k12.pot' nr3
  refine i_lcl ?_
  repeat walk_at "rd"
  refine i_rlcLp (fun i H' v => ∀ k, (keys L)[i]? = some k → ∃ t, v = V.ref t ∧ MvAt a.Move H' t k) k3.pot' hrw3 pr (by rw [refs_len]; omega) (fun i H1 H2 v s g k hk => by
    obtain ⟨t, e, m⟩ := g k hk
    exact ⟨t, e, m.nl s⟩) (fun x => rfl) ?_ ?_
  · intro i x H' Q' hx k' q'
    obtain ⟨y, hy, rfl⟩ := refs_at hx
    dsimp only [List.map, wipe, List.set]
    repeat walk_at "rd"
    refine i_mk k'.pot' ((tr3.at_ hy).pk k') (okL y (List.mem_of_getElem? hy)) fun m H4 k4 hm => ?_
    exact q' _ H4 k4 fun k hk => by
      rw [keys_at hy] at hk
      cases hk
      exact ⟨m, rfl, hm⟩
  intro r4 H4 ys nr4 k4 hr4 hys g4
  obtain ⟨N, rfl, hkN, mN⟩ := lift (P := fun t k => MvAt a.Move H4 t k) (ks := keys L) (ys := ys) (by rw [hys, refs_len, keys_len]) fun i v k h1 h2 => g4 i v h1 k h2
  clear g4 hys
  have mM : Movs a.Move H3 M := mM
  have mM4 := mM.pk k4
  have mN4 : Movs a.Move H4 N := mN
  have tr4 := tr3.pk k4
  have hrw4 := k4.keep _ _ pr hrw3
  have hr34 := k4.keep _ _ pr3 hr3
  have kk : Dr p H H4 := (k12.trans k3).trans k4
  have q' : ∀ H', Same H4 H' → Q (.bl true) H' := fun H' s => q H' (kk.same s)
  have lM : M.length = L.length := by rw [← keys_len M, hkM, keys_len]
  have lN : N.length = L.length := by rw [← keys_len N, hkN, keys_len]
  clear mM mN tr tr3 hrw hrw3 hr3 kk k12 k3 k4 q nr3 nr4
  repeat walk_at "rd"
  refine i_rforE (xs := refs M) hr34 (fun _ σ H' => ∃ (v1 v2 v3 v4 v5 v6 : Option V), σ = [some (.ref p), some (.ref rw_), some (.ref r3), some (.ref r4), v1, v2, v3, v4, v5, v6] ∧ Same H4 H') ⟨_, _, _, _, _, _, rfl, Same.refl _⟩ (fun i σ H' _ ⟨_, _, _, _, _, _, _, s⟩ => s _ _ hr34) ?_ ?_
  · rintro i z σ H5 t H6 hi ⟨v1, v2, v3, v4, v5, v6, rfl, s5⟩ nt ht s6
    obtain ⟨x, hx, rfl⟩ := refs_at hi
    obtain ⟨y, hy, ey⟩ := keys_get hkM hx
    obtain ⟨z, hz, ez⟩ := keys_get (hkM.trans hkN.symm) hx
    have ok := okL y (List.mem_of_getElem? hy)
    have s46 : Same H4 H6 := s5.trans s6
    have mx := (mM4.at_ hx).same s46
    have ty := (tr4.at_ hy).same s46
    refine i_gpair ht ?_
    dsimp only [List.set]
    repeat walk_at "rd"
    refine i_ixRef (s46 _ _ hrw4) hy ?_
    repeat walk_at "rd"
    refine i_one mx (by rw [← ey]; exact ty) (by rw [← ey]; exact ok) fun H7 s7 => ?_
    have s47 := s46.trans s7
    repeat walk_at "rd"
    refine i_ixRef (s47 _ _ hr4) hz ?_
    repeat walk_at "rd"
    refine i_mne (mx.same s7) ((mN4.at_ hz).same s47) (by rw [← ey]; exact ok.ok) (by rw [ez, ← ey]; exact ok.ok) ?_
    rw [decide_eq_true ez.symm]
    repeat walk_at "rd"
    refine i_rforE (xs := refs N) (s47 _ _ hr4) (fun _ σ H' => ∃ (v4 v5 v6 : Option V), σ = [some (.ref p), some (.ref rw_), some (.ref r3), some (.ref r4), v1, some (.int (i : Int)), some (.ref x.1), v4, v5, v6] ∧ Same H4 H') ⟨_, _, _, rfl, s47⟩ (fun i σ H' _ ⟨_, _, _, _, s⟩ => s _ _ hr4) ?_ ?_
    · rintro j w σ H8 t2 H9 hj ⟨v4, v5, v6, rfl, s8⟩ nt2 ht2 s9
      obtain ⟨u, hu, rfl⟩ := refs_at hj
      obtain ⟨e, he, ee⟩ := keys_get hkN hu
      have ok2 := okL e (List.mem_of_getElem? he)
      have s49 : Same H4 H9 := s8.trans s9
      refine i_gpair ht2 ?_
      dsimp only [List.set]
      repeat walk_at "rd"
      refine i_ixRef (s49 _ _ hrw4) hy ?_
      repeat walk_at "rd"
      refine i_ixRef (s49 _ _ hrw4) he ?_
      repeat walk_at "rd"
      refine i_two ((mM4.at_ hx).same s49) ((mN4.at_ hu).same s49) (by rw [← ey]; exact (tr4.at_ hy).same s49) (by rw [← ee]; exact (tr4.at_ he).same s49) (by rw [← ey]; exact ok) (by rw [← ee]; exact ok2) fun H10 s10 => ?_
      repeat walk_at "rd"
      exact ⟨_, _, _, rfl, s49.trans s10⟩
    · rintro σ H8 ⟨v4, v5, v6, rfl, s8⟩
      repeat walk_at "rd"
      exact ⟨_, _, _, _, _, _, rfl, s8⟩
  · rintro σ H5 ⟨v1, v2, v3, v4, v5, v6, rfl, s5⟩
    repeat walk_at "rd"
    refine i_lcl ?_
    repeat walk_at "rd"
    refine i_order (s5 _ _ hr34) (mM4.same s5) (by omega) fun r6 H6 O n6 s6 h6 pm so => ?_
    have s46 := s5.trans s6
    have mO : Movs a.Move H6 O := fun x hx => (mM4 x (pm.mem_iff.mp hx)).same s46
    have lO : O.length ≤ 10 := by rw [pm.length_eq]; omega
    repeat walk_at "rd"
    refine i_rlcLG (xs := refs O) (fun i H' v => ∀ k, (keys O)[i]? = some k → ∃ t, v = V.ref t ∧ TripAt H' t k) (SqL.of h6) (fun H' s => SqL.of (s _ _ h6)) (by rw [refs_len]; omega) (fun i H1 H2 v s g k hk => by
      obtain ⟨t, e, m⟩ := g k hk
      exact ⟨t, e, m.nl s⟩) (fun x => rfl) ?_ ?_
    · intro i x H' Q' hx s' q2
      obtain ⟨y, hy, rfl⟩ := refs_at hx
      have my := (mO.at_ hy).same s'
      dsimp only [List.map, wipe, List.set]
      repeat walk_at "rd"
      refine i_mkT (by show 3 ≤ 1000; decide) fun t H7 nt ht s7 => ?_
      exact q2 _ H7 s7 fun k hk => by
        rw [keys_at hy] at hk
        cases hk
        exact ⟨t, rfl, ht⟩
    intro r7 H7 ys n7 s7 h7 hys g7
    obtain ⟨P, rfl, hkP, tP⟩ := lift (P := fun t k => TripAt H7 t k) (ks := keys O) (ys := ys) (by rw [hys, refs_len, keys_len]) fun i v k h1 h2 => g7 i v h1 k h2
    have tP : Trips H7 P := tP
    have s47 := s46.trans s7
    repeat walk_at "rd"
    refine i_sortedT (s47 _ _ hrw4) (tr4.same s47) fun r8 H8 S n8 s8 h8 tS soS pmS => ?_
    have s48 := s47.trans s8
    have kP : keys P = keys S := by
      rw [hkP]
      refine sorted_eq ?_ (List.pairwise_map.mpr so) soS
      refine (List.Perm.map _ pm).trans ?_
      rw [show M.map (fun x => x.2) = keys M from rfl, hkM]
      exact pmS.symm
    have okS : ∀ k ∈ keys S, Ok3 k := fun k hk => by
      have := pmS.mem_iff.mp hk
      obtain ⟨y, hy, rfl⟩ := List.mem_map.mp this
      exact (okL y hy).ok
    repeat walk_at "rd"
    refine i_eqD (dTs_dp (s8 _ _ h7) (tP.same s8)) (by rw [kP]; exact dTs_dp h8 tS) (by rw [kP]; exact dTs_shaped okS) ?_
    have reps : ∀ {l : Addr} {N : List (Addr × T3)} {H0 : Hp} {Q' : VK} {σ : L2.St}, H0 l = some (.lst (refs N)) → Movs a.Move H0 N → keys N = keys L → N.length ≤ 10 → σ.length = 10 → (∀ r H', H0 r = none → Same H0 H' → H' r = some (.lst (((keys L).map mRep).map V.str)) → Q' (.ref r) H') →
        rLcL W.K (gName 6) tYes (tCB (rSOwn a.Move (spMtx a.Move mRep)) (tCons (tVar 6) tNil)) [6] σ (.ref l) H0 Q' := by
      intro l N H0 Q' σ hl mN hk hz hσ fin
      match σ, hσ with
      | [x0, x1, x2, x3, x4, x5, x6, x7, x8, x9], _ =>
      have okN : ∀ x ∈ N, OkM x.2 := fun x hx => by
        obtain ⟨i, hi⟩ := List.getElem?_of_mem hx
        obtain ⟨y, hy, ey⟩ := keys_get hk hi
        rw [← ey]
        exact okL y (List.mem_of_getElem? hy)
      refine i_rlcF (xs := refs N) (fun _ => true) (fun v => .str (mRep (mvKey H0 v))) (SqL.of hl) (fun H' s => SqL.of (s _ _ hl)) (by rw [refs_len]; omega) (fun x => rfl) (fun x H' R _ _ hR => hR) ?_ ?_
      · intro x H' Q2 hx _ s' q2
        obtain ⟨y, hy, rfl⟩ := List.mem_map.mp hx
        have my := (mN y hy).same s'
        have oy := okN y hy
        dsimp only [List.map, wipe, List.set]
        repeat walk_at "rd"
        have e := q2 H' (Same.refl _)
        rw [(mN y hy).key] at e
        exact e
      · intro r H' nr s' hr'
        refine fin r H' nr s' ?_
        rw [hr']
        congr 2
        rw [show (refs N).filter (fun _ => true) = refs N by simp, ← hk]
        unfold refs keys
        rw [List.map_map, List.map_map, List.map_map]
        refine List.map_congr_left fun x hx => ?_
        show V.str (mRep (mvKey H0 (V.ref x.1))) = V.str (mRep x.2)
        rw [(mN x hx).key]
    repeat walk_at "rd"
    refine i_lcl ?_
    repeat walk_at "rd"
    refine reps (s48 _ _ hr34) (mM4.same s48) hkM (by omega) rfl fun r9 H9 n9 s9 h9 => ?_
    have s49 := s48.trans s9
    repeat walk_at "rd"
    refine i_lcl ?_
    repeat walk_at "rd"
    refine reps (s49 _ _ hr4) (mN4.same s49) hkN (by omega) rfl fun r10 H10 n10 s10 h10 => ?_
    repeat walk_at "rd"
    refine i_eqSs (s10 _ _ h9) h10 rfl ?_ ?_
    · intro z hz
      obtain ⟨k, hk, rfl⟩ := List.mem_map.mp hz
      obtain ⟨y, hy, rfl⟩ := List.mem_map.mp hk
      exact rep_ok (okL y hy)
    repeat walk_at "rd"
    exact q' _ (s49.trans s10)
end Lw

namespace Lw
open PySem PySem.Spec PyProof.Rows L2 Ly
local macro_rules | `(tactic| walk_at "rd") => `(tactic| first
  | ((with_reducible refine' i_var ?hv ?_); (case hv => exact rfl))
  | with_reducible refine i_c ?_
  | with_reducible refine i_op ?_
  | with_reducible refine i_cons ?_
  | with_reducible refine i_nil ?_
  | with_reducible refine i_cb ?_
  | with_reducible refine i_call ?_
  | with_reducible refine i_I0 ?_
  | with_reducible refine i_add_i ?_
  | with_reducible refine i_sub_i ?_
  | with_reducible refine i_md_i (by first | decide | assumption) ?_
  | ((with_reducible refine' i_md_i ?c ?_); rotate_left)
  | ((with_reducible refine' i_mul_i ?c ?_); rotate_left)
  | with_reducible refine i_fd_i (by decide) ?_
  | ((with_reducible refine' i_fd_i ?c ?_); rotate_left)
  | with_reducible refine i_int ?_
  | with_reducible refine i_abs ?_
  | with_reducible refine i_max2 ?_
  | with_reducible refine i_min2 ?_
  | with_reducible refine i_gcd ?_
  | with_reducible refine i_seq ?_
  | with_reducible refine i_if ?_
  | with_reducible refine i_asg ?_
  | with_reducible refine i_ret ?_
  | with_reducible refine i_drop ?_
  | with_reducible refine i_next ?_
  | with_reducible refine i_un ?_
  | with_reducible refine i_U ?_
  | ((with_reducible refine i_gname ?_); dsimp only [List.set])
  | with_reducible refine i_test ?_
  | with_reducible refine i_not ?_
  | with_reducible refine i_tb ?_
  | with_reducible refine i_andV ?_
  | with_reducible refine i_orV ?_
  | with_reducible refine i_notV ?_
  | with_reducible refine i_ifx ?_
  | with_reducible refine i_ext ?_
  | with_reducible refine i_exf ?_
  | with_reducible refine i_exn ?_
  | with_reducible refine i_itt ?_
  | with_reducible refine i_itf ?_
  | with_reducible refine i_gsub ?_
  | with_reducible refine i_nt ?_
  | with_reducible refine i_tup ?_
  | with_reducible refine i_lst ?_
  | with_reducible refine i_nf ?_
  | with_reducible refine i_isint ?_
  | ((with_reducible refine' i_top ?r ?_); (case r => walk_at "hp"))
  | ((with_reducible refine' i_bot ?r ?_); (case r => walk_at "hp"))
  | with_reducible refine i_fld ?_
  | with_reducible refine i_sfld ?_
  | with_reducible refine i_pp ?_
  | with_reducible refine i_meth ?_
  | with_reducible refine i_smeth ?_
  | with_reducible refine i_make ?_
  | with_reducible refine i_sl ?_
  | with_reducible refine i_noPart ?_
  | with_reducible refine i_part ?_
  | with_reducible refine i_smethK ?_
  | with_reducible refine i_sk1 ?_
  | with_reducible refine i_makeK ?_
  | with_reducible refine i_methK ?_
  | with_reducible refine i_mk11 ?_
  | ((with_reducible refine' i_rmk ?r ?h1 ?h2 ?_); (case r => walk_at "hp"); (case h1 => decide +kernel); (case h2 => decide +kernel))
  | with_reducible refine i_tpar ?_
  | ((with_reducible refine i_rpar ?_); dsimp only [List.set])
  | with_reducible refine i_eq_s rfl ?_
  | with_reducible refine i_ne_s rfl ?_
  | ((with_reducible refine' i_rtop ?r ?c ?n ?_); (case r => walk_at "hp"); (case c => assumption); (case n => assumption))
  | ((with_reducible refine' i_rbot ?r ?c ?n ?_); (case r => walk_at "hp"); (case c => assumption); (case n => assumption))
  | ((with_reducible refine' i_rpp ?r ?_); (case r => walk_at "hp"))
  | ((with_reducible refine' i_rmeth ?r ?h1 ?h2 ?_); (case r => walk_at "hp"); (case h1 => decide +kernel); (case h2 => decide +kernel))
  | ((with_reducible refine' i_ix_l ?hp ?ha ?_); (case hp => walk_at "hp"); (case ha => exact rfl))
  | ((with_reducible refine' i_len_l ?hp ?_); (case hp => walk_at "hp"))
  | ((with_reducible refine' i_ix_f0 ?hp ?_); (case hp => walk_at "hp"))
  | ((with_reducible refine' i_ix_f1 ?hp ?_); (case hp => walk_at "hp"))
  | ((with_reducible refine' i_ix_t ?hp ?ha ?_); (case hp => walk_at "hp"); (case ha => exact rfl)))
local macro_rules | `(tactic| walk_at "hp") => `(tactic| first
  | assumption
  | exact upd_same
  | exact SqL.of (by assumption)
  | (refine' Dr.tup (by assumption) ?hq; (case hq => walk_at "hp"))
  | (refine' FrL.same (by assumption) ?hq; (case hq => walk_at "hp"))
  | (refine' FracAt.same (by assumption) ?hq; (case hq => walk_at "hp"))
  | (refine' FracAt.nl (by assumption) ?hq; (case hq => walk_at "hp"))
  | (refine' RatAt.nl (by assumption) ?hq; (case hq => walk_at "hp"))
  | (refine' Num.nl (by assumption) ?hq; (case hq => walk_at "hp"))
  | (refine' FracAt.pk (by assumption) ?hq; (case hq => walk_at "hp"))
  | (refine' RatAt.pk (by assumption) ?hq; (case hq => walk_at "hp"))
  | (refine' Num.pk (by assumption) ?hq; (case hq => walk_at "hp"))
  | (refine' Dr.keep (by assumption) _ _ (by assumption) ?hq; (case hq => walk_at "hp"))
  | (refine' (show Same _ _ by assumption) _ _ ?hq; (case hq => walk_at "hp"))
  | (refine' RatAt.same (by assumption) ?hq; (case hq => walk_at "hp"))
  | (refine' Num.same (by assumption) ?hq; (case hq => walk_at "hp")))
local macro_rules | `(tactic| walk_at "sm") => `(tactic| first
  | assumption
  | exact Same.refl _
  | (refine' Same.kl (by assumption) (by assumption) ?aa; (case aa => walk_at "sm"))
  | (refine' Same.trans ?aa (by assumption); (case aa => walk_at "sm")))
local macro_rules | `(tactic| walk_at "dr") => `(tactic| first
  | assumption
  | (refine' Dr.same ?aa (by assumption); (case aa => walk_at "dr"))
  | (refine' Dr.trans ?aa (by assumption); (case aa => walk_at "dr")))

variable {W : Wd} {a : Ad}
def spLaw (K : PySem.W.Frag) : Sp := fun vs H Q _ => ∃ (a : Addr) (ns : List Int), vs = [.ref a] ∧ SqL K H a (ns.map V.int) ∧ ns.length ≤ 63 ∧ ∀ H', Q (.bl true) H'
theorem bo_law (T : Txt W.K W.mg a) : BodyG W 10 N_law "law" s_law (spLaw W.K) := by
  intro f cdv A outer s0 H vs Q E hr hgd h
  obtain ⟨l, ns, rfl, hs, hl, q⟩ := h
  refine ⟨_, (pss_one (ps_ret (pe_callB (r := rAll W.K) (cr_all rfl) (by rfl) T.b_all (by decide +kernel) (pa_cons (pe_lc (own := [("_law_k", 1)]) (g := (gName 1)) (tt := tYes) rfl sc_law.nd (pi_range1 rfl T.b_range (pa_cons (pe_callB (call_max2U rfl) (by rfl) T.b_max (by decide +kernel) (pa_cons pe_int (pa_cons (pe_callB (call_min2U rfl) (by rfl) T.b_min (by decide +kernel) (pa_cons pe_int (pa_cons (pe_callB (r := Ly.rLen W.K) call_lenU (by rfl) T.b_len (by decide +kernel) (pa_cons (pv 0) pa_nil)) pa_nil))) pa_nil))) pa_nil)) (blkOk_by (N := N_law) (sc := defScope s_law) (by decide +kernel)) (fun _ _ _ _ _ => (pg_name (i := 1) sc_law.nd rfl (Or.inl rfl))) (fun _ _ _ _ _ => pts_nil) (fun _ _ _ _ _ => (pe_clG (k_law_right T) hr hgd (by decide) rfl (pa_cons (pe_cl (k_law_pot T) hr (by decide) rfl (pa_cons (pv 0) (pa_cons (pv 1) pa_nil))) pa_nil)))) pa_nil)))), ?_⟩
  refine i_start (σ' := [some (V.ref l), none]) rfl ?_
  refine i_ret ?_
  refine i_cb ?_
  refine i_cons ?_
  have hlen : (ns.map V.int).length = ns.length := List.length_map ..
  refine i_lcR (m := if (if ((ns.map V.int).length : Int) < 4 then ((ns.map V.int).length : Int) else 4) > 1 then (if ((ns.map V.int).length : Int) < 4 then ((ns.map V.int).length : Int) else 4) else 1) (fun i H' v => v = V.bl true) (fun Q' hQ => ?_) ?_ ?_ (fun _ _ _ _ _ g => g) (fun x => rfl) ?_ ?_
  · repeat walk_at "rd"
    refine i_len_L hs ?_
    repeat walk_at "rd"
    exact hQ
  · split <;> omega
  · split
    · split <;> omega
    · decide
  · intro i H' Q' hi s q'
    have hi2 : (i : Int) < 100 := by
      have : (i : Int) < 5 := by
        refine Int.lt_of_lt_of_le hi ?_
        split
        · split <;> omega
        · decide
      omega
    dsimp only [List.map, wipe, List.set]
    repeat walk_at "rd"
    refine ⟨l, ns, (i : Int), rfl, s.seq hs, by omega, hi2, fun p H1 np s1 hp => ?_⟩
    repeat walk_at "rd"
    refine i_right hp fun H2 k2 => q' _ H2 (fun c o e => k2.keep c o (ne_of_none e np) (s1 _ _ e)) rfl
  · intro r H' ys nr s hr' hy g
    repeat walk_at "rd"
    have ey : ys = (List.replicate ys.length true).map V.bl := by
      apply List.ext_getElem?
      intro i
      rw [List.getElem?_map]
      rcases Nat.lt_or_ge i ys.length with h | h
      · rw [List.getElem?_eq_getElem h, g i ys[i] (List.getElem?_eq_getElem h)]
        simp [h]
      · simp [h]
    refine ⟨r, List.replicate ys.length true, rfl, ?_, ?_⟩
    · rw [← ey]
      exact SqL.of hr'
    · rw [show (List.replicate ys.length true).all id = true by simp]
      exact q H'
theorem fin {l : PySem.W.OpenLaw} {w : World} {K : PySem.W.Frag} {h : Heap} {mg : Str → Option Value} {fa R : Addr} (X : K.In h) (G : h.Ns mainGlobals mg) (hfa : mg "law" = some (.ref fa)) (T : Txt K mg ⟨R⟩) :
    ∃ fd : FuncData, (∀ (s : Shared) (v : Value), BindsTo s fd ⟨[v], []⟩ [("_law_script", v)]) ∧ ∀ base : Heap, K.In base → base.Ns mainGlobals mg → FnG l.prog w K mg base 40 fa fd ["_law_script"] (spLaw K) := by
  obtain ⟨f, fd, F, hm⟩ := T.d_law.ex
  have e := hfa.symm.trans hm
  cases e
  obtain ⟨oc, od, kV, doc, pm, an, cdv, ct, osl, rfl, lk, hc⟩ := F.ex
  refine ⟨PySem.W.fnOf "law" "law" (defArgs s_law) (defBody s_law) (defScope s_law) .none kV doc pm an cdv ct, fun s v => .of_eq rfl, fun base _ _ => ?_⟩
  exact (fng_fun (W := ⟨l.prog, w, K, mg, base⟩) F sc_law (fun vs H Q E ⟨a, ns, h, _⟩ => by rw [h]; rfl) (bo_law (W := ⟨l.prog, w, K, mg, base⟩) (a := ⟨R⟩) T)).mono (by decide)
theorem walk {l : PySem.W.OpenLaw} {q : Program} {loose : List Str} {XP : (Str → Option Value) → Heap → Prop} {YP : World → Heap → Prop} {d : DefRec} {K : Params → PySem.W.Frag} (hn : l.most = some 63) (hdf : d.params.defaults = [])
    (hY : ∀ (w : World) (h : Heap), YP w h → (K w.params).In h)
    (F : ∀ (w : World) (mg : Str → Option Value) (fa : Addr) (h : Heap), (K w.params).In h → h.Ns mainGlobals mg → mg d.name = some (.ref fa) →
      ∃ fd : FuncData, (∀ (s : Shared) (u : Value), BindsTo s fd ⟨[u], []⟩ [("_law_script", u)]) ∧ ∀ base : Heap, (K w.params).In base → base.Ns mainGlobals mg → FnG l.prog w (K w.params) mg base 40 fa fd ["_law_script"] (spLaw (K w.params))) :
    PySem.W.WalkO q loose XP YP l.row.toRowW d [] (fun f vs => PySem.call f vs) :=
  walk_ofG (n := 63) (k := 40) (x := "_law_script") (sp := fun w => spLaw (K w.params)) hn (by decide) hdf ⟨rfl, by decide, by decide⟩ hY F (fun _ _ a ns hl _ hS => ⟨a, ns, rfl, hS, hl, fun _ => rfl⟩)
end Lw

open PySem PySem.W PyProof.Rows
set_option maxRecDepth 100000 in
set_option maxHeartbeats 0 in
theorem PySem.Challenge.cw_evenloads_k13_moves_in_order_holds : PySem.Challenge.rw_evenloads_k13_moves_in_order.Holds := by
  w_on; o_law; k_head; (case hw => w_witness2)
  k_fill
  refine Lw.walk (l := PySem.Challenge.rw_evenloads_k13_moves_in_order) rfl rfl (fun w h Y => PySem.W.kIn_of Y) ?F
  case F =>
    intro w mg fa h KX G hmg
    refine' Lw.fin KX G hmg ?T
    case T =>
    refine' Lw.Txt.mk ?o_Move ?n_Move_names ?d_is_name ?d_Move_init ?d_Move_task ?d_Move_start ?d_Move_goal ?d_Move_lt ?d_Move_le ?d_Move_gt ?d_Move_ge ?d_Move_eq ?d_Move_neg ?d_Move_str ?d_Move_repr ?d_law_pot ?d_law_draw ?d_law_pick ?d_law_named ?d_law_drawn ?d_law_made ?d_law_two_right ?d_law_alone_right ?d_law_in_order ?d_law_right ?d_law ?x_Move_ne ?b_abs ?b_len ?b_divmod ?b_max ?b_min ?b_all ?b_int ?b_str ?b_bool ?b_isinstance ?b_range ?b_repr ?b_list ?b_sorted ?b_enumerate ?s_Move_tuple ?kt_Move_tuple ?s_Move_str ?kt_Move_str ?s_Move_list ?kt_Move_list
    case o_Move =>
      refine' Ly.OwnC.mk (PySem.W.mg_of KX G ?aC) ⟨?pg, ?hd, ?po, ?sa⟩ ?kp ?sf (Ly.m2_mk ?m2 ?m3) ?sI ?sJ ?sO ?nI Ly.kO_mk (Ly.kI_mk ?k1 ?k2 ?k3) ?cl ?mo
      (case aC => k_is); (case pg => k_is); (case hd => k_is); (case po => k_is); (case sa => k_is); (case kp => k_is); (case sf => k_is); (case m2 => k_is)
      (case m3 => rfl)
      (case sI => k_is); (case sJ => k_is); (case sO => k_is); (case nI => k_is); (case k1 => k_is); (case k2 => k_is); (case k3 => k_is); (case cl => k_is); (case mo => k_is)
    case n_Move_names =>
      refine' Ly.noattr_mk ?a
      (case a => k_is)
    case d_is_name =>
      refine' Ly.gf_mk KX G ?a ?l ?c ?k
      (case a => k_is); (case l => k_is); (case c => k_is); (case k => k_is)
    case d_Move_init =>
      refine' Ly.gi_mk0 ?mk ?a ?i1 ?kc ?l ?c ?k
      (case mk => k_is); (case a => k_is); (case i1 => k_is); (case kc => k_is); (case l => k_is); (case c => k_is); (case k => k_is)
    case d_Move_task =>
      refine' Ly.gp_mk ?a ?b ?t ?r ?l ?c ?k
      (case a => k_is); (case b => k_is); (case t => k_is); (case r => k_is); (case l => k_is); (case c => k_is); (case k => k_is)
    case d_Move_start =>
      refine' Ly.gp_mk ?a ?b ?t ?r ?l ?c ?k
      (case a => k_is); (case b => k_is); (case t => k_is); (case r => k_is); (case l => k_is); (case c => k_is); (case k => k_is)
    case d_Move_goal =>
      refine' Ly.gp_mk ?a ?b ?t ?r ?l ?c ?k
      (case a => k_is); (case b => k_is); (case t => k_is); (case r => k_is); (case l => k_is); (case c => k_is); (case k => k_is)
    case d_Move_lt =>
      refine' Ly.gm_mk ?a ?i ?l ?c ?k
      (case a => k_is); (case i => k_is); (case l => k_is); (case c => k_is); (case k => k_is)
    case d_Move_le =>
      refine' Ly.gm_mk ?a ?i ?l ?c ?k
      (case a => k_is); (case i => k_is); (case l => k_is); (case c => k_is); (case k => k_is)
    case d_Move_gt =>
      refine' Ly.gm_mk ?a ?i ?l ?c ?k
      (case a => k_is); (case i => k_is); (case l => k_is); (case c => k_is); (case k => k_is)
    case d_Move_ge =>
      refine' Ly.gm_mk ?a ?i ?l ?c ?k
      (case a => k_is); (case i => k_is); (case l => k_is); (case c => k_is); (case k => k_is)
    case d_Move_eq =>
      refine' Ly.gm_mk ?a ?i ?l ?c ?k
      (case a => k_is); (case i => k_is); (case l => k_is); (case c => k_is); (case k => k_is)
    case d_Move_neg =>
      refine' Ly.gm_mk ?a ?i ?l ?c ?k
      (case a => k_is); (case i => k_is); (case l => k_is); (case c => k_is); (case k => k_is)
    case d_Move_str =>
      refine' Ly.gm_mk ?a ?i ?l ?c ?k
      (case a => k_is); (case i => k_is); (case l => k_is); (case c => k_is); (case k => k_is)
    case d_Move_repr =>
      refine' Ly.gm_mk ?a ?i ?l ?c ?k
      (case a => k_is); (case i => k_is); (case l => k_is); (case c => k_is); (case k => k_is)
    case d_law_pot =>
      refine' Ly.gf_mk KX G ?a ?l ?c ?k
      (case a => k_is); (case l => k_is); (case c => k_is); (case k => k_is)
    case d_law_draw =>
      refine' Ly.gf_mk KX G ?a ?l ?c ?k
      (case a => k_is); (case l => k_is); (case c => k_is); (case k => k_is)
    case d_law_pick =>
      refine' Ly.gf_mk KX G ?a ?l ?c ?k
      (case a => k_is); (case l => k_is); (case c => k_is); (case k => k_is)
    case d_law_named =>
      refine' Ly.gf_mk KX G ?a ?l ?c ?k
      (case a => k_is); (case l => k_is); (case c => k_is); (case k => k_is)
    case d_law_drawn =>
      refine' Ly.gf_mk KX G ?a ?l ?c ?k
      (case a => k_is); (case l => k_is); (case c => k_is); (case k => k_is)
    case d_law_made =>
      refine' Ly.gf_mk KX G ?a ?l ?c ?k
      (case a => k_is); (case l => k_is); (case c => k_is); (case k => k_is)
    case d_law_two_right =>
      refine' Ly.gf_mk KX G ?a ?l ?c ?k
      (case a => k_is); (case l => k_is); (case c => k_is); (case k => k_is)
    case d_law_alone_right =>
      refine' Ly.gf_mk KX G ?a ?l ?c ?k
      (case a => k_is); (case l => k_is); (case c => k_is); (case k => k_is)
    case d_law_in_order =>
      refine' Ly.gf_mk KX G ?a ?l ?c ?k
      (case a => k_is); (case l => k_is); (case c => k_is); (case k => k_is)
    case d_law_right =>
      refine' Ly.gf_mk KX G ?a ?l ?c ?k
      (case a => k_is); (case l => k_is); (case c => k_is); (case k => k_is)
    case d_law =>
      refine' Ly.gf_mk KX G ?a ?l ?c ?k
      (case a => k_is); (case l => k_is); (case c => k_is); (case k => k_is)
    case x_Move_ne =>
      k_is
    case b_abs =>
      refine' PySem.W.mg_none_of KX G ?a
      (case a => k_is)
    case b_len =>
      refine' PySem.W.mg_none_of KX G ?a
      (case a => k_is)
    case b_divmod =>
      refine' PySem.W.mg_none_of KX G ?a
      (case a => k_is)
    case b_max =>
      refine' PySem.W.mg_none_of KX G ?a
      (case a => k_is)
    case b_min =>
      refine' PySem.W.mg_none_of KX G ?a
      (case a => k_is)
    case b_all =>
      refine' PySem.W.mg_none_of KX G ?a
      (case a => k_is)
    case b_int =>
      refine' PySem.W.mg_none_of KX G ?a
      (case a => k_is)
    case b_str =>
      refine' PySem.W.mg_none_of KX G ?a
      (case a => k_is)
    case b_bool =>
      refine' PySem.W.mg_none_of KX G ?a
      (case a => k_is)
    case b_isinstance =>
      refine' PySem.W.mg_none_of KX G ?a
      (case a => k_is)
    case b_range =>
      refine' PySem.W.mg_none_of KX G ?a
      (case a => k_is)
    case b_repr =>
      refine' PySem.W.mg_none_of KX G ?a
      (case a => k_is)
    case b_list =>
      refine' PySem.W.mg_none_of KX G ?a
      (case a => k_is)
    case b_sorted =>
      refine' PySem.W.mg_none_of KX G ?a
      (case a => k_is)
    case b_enumerate =>
      refine' PySem.W.mg_none_of KX G ?a
      (case a => k_is)
    case s_Move_tuple =>
      k_is
    case kt_Move_tuple =>
      refine' Ly.kT_mk ?k1 ?k2 ?k3
      (case k1 => k_is); (case k2 => k_is); (case k3 => k_is)
    case s_Move_str =>
      k_is
    case kt_Move_str =>
      refine' Ly.kT_mk ?k1 ?k2 ?k3
      (case k1 => k_is); (case k2 => k_is); (case k3 => k_is)
    case s_Move_list =>
      k_is
    case kt_Move_list =>
      refine' Ly.kT_mk ?k1 ?k2 ?k3
      (case k1 => k_is); (case k2 => k_is); (case k3 => k_is)
