import PyProof.Rows.All
import Wide.All
import OpenK.AllK
import Wide.FinOn
import HandS.ForMost
import HandS.Wide
import HandS.WideBits
import HandS.ClsMeth
import HandS.Property
import HandS.Defaults
import HandS.Gcd
import HandS.FStr
import HandS.StrMore
import HandS.IsInst
import KE.KOpsOwn
import HandS.OwnEq
import PyProof.Rows.Range3
import HandS.MakeKwOnly
import HandS.Ends
import HandS.Evl
import HandS.Text
import HandS.Iter
import PySem.Challenge.RW_evenloads_k11_whole_ratios_by_own_fracti
set_option Elab.async false
set_option linter.all false
set_option maxRecDepth 100000
set_option maxHeartbeats 4000000
/-! My own layer: callable defs in one word, readings that unfold step by step. -/
namespace Ly
open PySem PySem.Spec PyProof.Rows L2

/-- where all stands -/
structure Wd where
  P : Program
  w : World
  K : PySem.W.Frag
  mg : Str → Option Value
  base : Heap

/-- a def of the module, without defaults, as it stands behind the top -/
structure GF (K : PySem.W.Frag) (mg : Str → Option Value) (x : Str) (st : Stmt) : Prop where
  ex : ∃ (f : Addr) (fd : FuncData), L2.Fun K x x st f fd ∧ mg x = some (.ref f)

/-- a def that may be called by its name -/
structure Cl (W : Wd) (k : Nat) (x : Str) (sp : Sp) : Prop where
  ex : ∃ (f : Addr) (fd : FuncData) (ps : List Str), FnOk W.P W.w W.K W.mg W.base CX0 k f fd ps sp ∧ W.mg x = some (.ref f) ∧ PySem.W.keepIn W.K (.ref f) = true ∧ Binds W.K fd ps []

theorem Cl.mono {W : Wd} {j k : Nat} {x : Str} {sp : Sp} (c : Cl W j x sp) (h : j ≤ k) : Cl W k x sp := by
  obtain ⟨f, fd, ps, F, a, b, d⟩ := c.ex
  exact ⟨f, fd, ps, F.mono h, a, b, d⟩
theorem Cl.imp {W : Wd} {k : Nat} {x : Str} {sp sp' : Sp} (c : Cl W k x sp) (h : ∀ vs H Q E, sp' vs H Q E → sp vs H Q E) : Cl W k x sp' := by
  obtain ⟨f, fd, ps, F, a, b, d⟩ := c.ex
  exact ⟨f, fd, ps, F.imp h, a, b, d⟩

theorem cl_of {W : Wd} {k : Nat} {x : Str} {st : Stmt} {N ps : List Str} {sp : Sp} (g : GF W.K W.mg x st) (S : FnScope N ps (defScope st))
    (hb : ∀ (kV doc pm : Value) (an : Option Addr) (cdv ct : Value) (us : List Value), us.length = ps.length → bindArgs (PySem.W.fnOf x x (defArgs st) (defBody st) (defScope st) .none kV doc pm an cdv ct) ⟨us, []⟩ = pure (ps.zip us))
    (len : ∀ vs H Q E, sp vs H Q E → vs.length = ps.length)
    (hbody : ∀ (f : Addr) (cdv : Value) (A : Around) (outer : List Env) (s : Shared) (H : Hp) (vs : List V) (Q : VK) (E : XK), Room k (A.deeper (envOfC x (defScope st) s.heap.objs.size f cdv)) → sp vs H Q E →
      ∃ t, PSs (cxOf CX0 W.P W.w W.K W.mg W.base N x (defScope st) f cdv A outer s H E).nox (defBody st) t ∧ t { nx := fun _ H' => Q .non H', rt := Q } (start N vs) H) : Cl W (k + 1) x sp := by
  obtain ⟨f, fd, F, hm⟩ := g.ex
  exact ⟨f, fd, ps, F.ok S len (fun cdv A outer s H vs Q E => hbody f cdv A outer s H vs Q E), hm, F.kp, F.binds hb⟩

section
variable {X : Cx} {k j : Nat} {x : Str} {sp : Sp} {p pos : Pos} {e : Expr} {es : List Expr} {t : TA}
theorem pe_cl (c : Cl ⟨X.prog, X.w, X.K, X.mg, X.base⟩ k x sp) (hr : Room j X.A) (hk : k ≤ j) (hg : Gl X x) (ha : PA X (e :: es) t)
    (hdb : (x == ("__debug__" : Str)) = false := by decide) (he : starEach (e :: es) X.env = (false, eval e X.env) :: starEach es X.env := by rfl) (hpl : (backTo pos (starEach es X.env)).any (·.1) = false := by rfl) :
    PE X (.Call (.Name x p) (e :: es) [] pos) (tCall sp [] E0 t) := by
  obtain ⟨f, fd, ps, F, hm, kp, b⟩ := c.ex
  exact pe_call F (hr.mono hk) hg hm kp b .nil pass0 ha hdb he hpl
end

/-! ### readings, step by step -/
section
variable {σ : L2.St} {H : Hp} {Q : VK} {K : PySem.W.Frag} {v x y : V} {ta tb te : TE} {t u : TA} {i j : Int} {D : Ends}
theorem i_var {n : Nat} (h : σ[n]? = some (some v)) (q : Q v H) : tVar n σ H Q := ⟨v, h, q⟩
theorem i_c (q : Q v H) : tC v σ H Q := q
theorem i_op {r : R2} (q : ta σ H fun x H1 => tb σ H1 fun y H2 => r x y H2 Q) : tOp r ta tb σ H Q := q
theorem i_un {r : V → Hp → VK → Prop} (q : ta σ H fun x H1 => r x H1 Q) : tUn r ta σ H Q := q
theorem i_I0 {g : Int → Int → V} (q : Q (g i j) H) : rI0 g (.int i) (.int j) H Q := ⟨i, j, rfl, rfl, q⟩
theorem i_I {C : Int → Int → Prop} {g : Int → Int → V} (c : C i j) (q : Q (g i j) H) : rI C g (.int i) (.int j) H Q := ⟨i, j, rfl, rfl, c, q⟩
theorem i_U {g : Int → V} (q : Q (g i) H) : rU g (.int i) H Q := ⟨i, rfl, q⟩
theorem i_nil {Q : List V → Hp → Prop} (q : Q [] H) : tNil σ H Q := q
theorem i_cons {Q : List V → Hp → Prop} (q : ta σ H fun x H1 => t σ H1 fun xs H2 => Q (x :: xs) H2) : tCons ta t σ H Q := q
theorem i_cb {r : List V → Hp → VK → Prop} (q : t σ H fun vs H1 => r vs H1 Q) : tCB r t σ H Q := q
theorem i_call {sp : Sp} {E : XK} (q : t σ H fun vs H1 => sp vs H1 Q E) : tCall sp [] E t σ H Q := by
  unfold tCall
  simpa only [List.append_nil] using q
theorem i_ret {te : TE} (q : te σ H D.rt) : tRet te D σ H := q
theorem i_seq {t u : TS} (q : t { D with nx := u D } σ H) : tSeq t u D σ H := q
theorem i_next (q : D.nx σ H) : tNext D σ H := q
theorem i_asg {g : TG} (q : te σ H fun x H1 => g x σ H1 D.nx) : tAsg te g D σ H := q
theorem i_gname {n : Nat} {Q : L2.St → Hp → Prop} (q : Q (σ.set n (some v)) H) : gName n v σ H Q := q
theorem i_if {c : TT} {t u : TS} (q : c σ H fun b H1 => if b = true then t D σ H1 else u D σ H1) : tIfS c t u D σ H := q
theorem i_dec {p A B : Prop} [Decidable p] (h1 : p → A) (h2 : ¬ p → B) : if decide p = true then A else B := by
  by_cases h : p
  · rw [if_pos (decide_eq_true h)]
    exact h1 h
  · rw [if_neg (by rw [decide_eq_false h]; exact Bool.false_ne_true)]
    exact h2 h
theorem i_start {t : TS} {σ' : L2.St} (e : σ = σ') (h : t D σ' H) : t D σ H := by
  rw [e]
  exact h
theorem i_test {te : TE} {Q : Bool → Hp → Prop} (q : te σ H fun x H1 => ∃ k, x = .bl k ∧ Q k H1) : tTest te σ H Q := q
theorem i_gsub {to ti : TE} {s : TSet} {Q : L2.St → Hp → Prop} (q : to σ H fun o H1 => ti σ H1 fun i H2 => s o i v H2 fun H3 => Q σ H3) : gSub to ti s v σ H Q := q
theorem i_ixL {p : Addr} {xs : List V} (h : SqL K H p xs) (ha : atI xs i = some v) (q : Q v H) : rIxL K (.ref p) (.int i) H Q := ⟨p, xs, i, v, rfl, rfl, h, ha, q⟩
theorem i_ixT {p : Addr} {xs : List V} (h : SqT K H p xs) (ha : atI xs i = some v) (q : Q v H) : rIxT K (.ref p) (.int i) H Q := ⟨p, xs, i, v, rfl, rfl, h, ha, q⟩
end
end Ly

namespace Ly
open PySem PySem.Spec PyProof.Rows L2
/-! ### rules for values of several kinds -/
def rInt1 : List V → Hp → VK → Prop := fun xs H Q => (∃ i, xs = [.int i] ∧ Q (.int i) H) ∨ ∃ k, xs = [.bl k] ∧ Q (.int (if k then 1 else 0)) H
theorem call_int1U {X : Cx} : CallR X (.type "int") rInt1 := call_int1
theorem i_int {H : Hp} {Q : VK} {i : Int} (q : Q (.int i) H) : rInt1 [.int i] H Q := .inl ⟨i, rfl, q⟩
def rAbs : List V → Hp → VK → Prop := fun xs H Q => ∃ i, xs = [.int i] ∧ Q (.int (if i < 0 then -i else i)) H
theorem call_absU {X : Cx} : CallR X (.builtin "abs") rAbs := call_abs
theorem i_abs {H : Hp} {Q : VK} {i : Int} (q : Q (.int (if i < 0 then -i else i)) H) : rAbs [.int i] H Q := ⟨i, rfl, q⟩
def rMax2 : List V → Hp → VK → Prop := fun xs H Q => ∃ i j, xs = [.int i, .int j] ∧ Q (.int (if j > i then j else i)) H
theorem call_max2U {X : Cx} (hc : X.calm = true) : CallR X (.builtin "max") rMax2 := call_max2 hc
theorem i_max2 {H : Hp} {Q : VK} {i j : Int} (q : Q (.int (if j > i then j else i)) H) : rMax2 [.int i, .int j] H Q := ⟨i, j, rfl, q⟩
def rMin2 : List V → Hp → VK → Prop := fun xs H Q => ∃ i j, xs = [.int i, .int j] ∧ Q (.int (if j < i then j else i)) H
theorem call_min2U {X : Cx} (hc : X.calm = true) : CallR X (.builtin "min") rMin2 := call_min2 hc
theorem i_min2 {H : Hp} {Q : VK} {i j : Int} (q : Q (.int (if j < i then j else i)) H) : rMin2 [.int i, .int j] H Q := ⟨i, j, rfl, q⟩
def rLen (K : PySem.W.Frag) : List V → Hp → VK → Prop := fun xs H Q => ∃ x n, xs = [x] ∧ LenV K x H n ∧ Q (.int n) H
theorem call_lenU {X : Cx} : CallR X (.builtin "len") (rLen X.K) := call_len
theorem i_len_l {K : PySem.W.Frag} {H : Hp} {Q : VK} {p : Addr} {xs : List V} (h : H p = some (.lst xs)) (q : Q (.int xs.length) H) : rLen K [.ref p] H Q := ⟨_, xs.length, rfl, .inl ⟨xs, SqL.of h, rfl⟩, q⟩
theorem i_len_L {K : PySem.W.Frag} {H : Hp} {Q : VK} {p : Addr} {xs : List V} (h : SqL K H p xs) (q : Q (.int xs.length) H) : rLen K [.ref p] H Q := ⟨_, xs.length, rfl, .inl ⟨xs, h, rfl⟩, q⟩
theorem i_len_t {K : PySem.W.Frag} {H : Hp} {Q : VK} {p : Addr} {xs : List V} (h : H p = some (.tup xs)) (q : Q (.int xs.length) H) : rLen K [.ref p] H Q := ⟨_, xs.length, rfl, .inr ⟨xs, SqT.of h, rfl⟩, q⟩
theorem i_len_s {K : PySem.W.Frag} {H : Hp} {Q : VK} {x : Str} (h : x.length ≤ sizeLine) (q : Q (.int x.length) H) : rLen K [.str x] H Q := ⟨_, x.length, rfl, ⟨h, rfl⟩, q⟩
def rDivmod : List V → Hp → VK → Prop := fun xs H Q => ∃ i j, xs = [.int i, .int j] ∧ CDivP i j ∧ ∀ p, H p = none → Q (.ref p) (upd H p (.tup [.int (i / j), .int (i % j)]))
theorem call_divmodU {X : Cx} : CallR X (.builtin "divmod") rDivmod := call_divmodW
theorem i_divmod {H : Hp} {Q : VK} {i j : Int} (c : CDivP i j) (q : ∀ p, H p = none → Q (.ref p) (upd H p (.tup [.int (i / j), .int (i % j)]))) : rDivmod [.int i, .int j] H Q := ⟨i, j, rfl, c, q⟩
def rOr (r s : R2) : R2 := fun x y H Q => r x y H Q ∨ s x y H Q
section
variable {X : Cx} {f : Value → Value → Sem Value} {r s : R2}
theorem opr_or (h : OpR X f r) (h' : OpR X f s) : OpR X f (rOr r s) := fun pins sh σ H x y v u Q I rx ry q => by
  rcases q with q | q
  · exact h pins sh σ H x y v u Q I rx ry q
  · exact h' pins sh σ H x y v u Q I rx ry q
def rAddS : R2 := fun x y H Q => ∃ i j, x = .str i ∧ y = .str j ∧ i.length + j.length ≤ sizeLine ∧ Q (.str (i ++ j)) H
def rAddU : R2 := rOr (rI0 fun i j => .int (i + j)) (rOr rAddS rCat)
theorem op_addU : OpR X (binaryOp .Add) rAddU := opr_or op_add (opr_or op_add_str op_cat)
def rSubU : R2 := rI0 fun i j => .int (i - j)
theorem op_subU : OpR X (binaryOp .Sub) rSubU := op_sub
def rMulU : R2 := rOr (rI CMulW fun i j => .int (i * j)) rRep
theorem op_mulU : OpR X (binaryOp .Mult) rMulU := opr_or op_mulW op_rep
def rFdU : R2 := rI CDivW fun i j => .int (i / j)
theorem op_fdivU : OpR X (binaryOp .FloorDiv) rFdU := op_fdivW
def rMdU : R2 := rI (fun _ j => 0 < j) fun i j => .int (i % j)
theorem op_modU : OpR X (binaryOp .Mod) rMdU := op_mod
def rEqU (K : PySem.W.Frag) : R2 := rOr rEq (rEqD K)
def rNeU (K : PySem.W.Frag) : R2 := rOr rNe (rNeD K)
theorem op_eqU (hu : X.A.units + 64 < cLine) : OpR X (compareOp .Eq) (rEqU X.K) := opr_or op_eq (op_eqD hu)
theorem op_neU (hu : X.A.units + 64 < cLine) : OpR X (compareOp .NotEq) (rNeU X.K) := opr_or op_ne (op_neD hu)
theorem ix_U : IxR X (rIx X.K) := ix_seq
end
section
variable {σ : L2.St} {H : Hp} {Q : VK} {K : PySem.W.Frag} {v x y : V} {i j : Int}
theorem i_add_i (q : Q (.int (i + j)) H) : rAddU (.int i) (.int j) H Q := .inl ⟨i, j, rfl, rfl, q⟩
theorem i_add_s {a b : Str} (h : a.length + b.length ≤ sizeLine) (q : Q (.str (a ++ b)) H) : rAddU (.str a) (.str b) H Q := .inr (.inl ⟨a, b, rfl, rfl, h, q⟩)
theorem i_sub_i (q : Q (.int (i - j)) H) : rSubU (.int i) (.int j) H Q := ⟨i, j, rfl, rfl, q⟩
theorem i_mul_i (h : CMulW i j) (q : Q (.int (i * j)) H) : rMulU (.int i) (.int j) H Q := .inl ⟨i, j, rfl, rfl, h, q⟩
theorem i_fd_i (h : CDivW i j) (q : Q (.int (i / j)) H) : rFdU (.int i) (.int j) H Q := ⟨i, j, rfl, rfl, h, q⟩
theorem i_md_i (h : 0 < j) (q : Q (.int (i % j)) H) : rMdU (.int i) (.int j) H Q := ⟨i, j, rfl, rfl, h, q⟩
theorem i_eq_s (h : scal x y = true) (q : Q (.bl (decide (x = y))) H) : rEqU K x y H Q := .inl ⟨h, q⟩
theorem i_ne_s (h : scal x y = true) (q : Q (.bl (!decide (x = y))) H) : rNeU K x y H Q := .inl ⟨h, q⟩
theorem i_ix_l {p : Addr} {xs : List V} (h : H p = some (.lst xs)) (ha : atI xs i = some v) (q : Q v H) : rIx K (.ref p) (.int i) H Q := .inl ⟨p, xs, i, v, rfl, rfl, SqL.of h, ha, q⟩
theorem i_ix_L {p : Addr} {xs : List V} (h : SqL K H p xs) (ha : atI xs i = some v) (q : Q v H) : rIx K (.ref p) (.int i) H Q := .inl ⟨p, xs, i, v, rfl, rfl, h, ha, q⟩
theorem i_ix_t {p : Addr} {xs : List V} (h : H p = some (.tup xs)) (ha : atI xs i = some v) (q : Q v H) : rIx K (.ref p) (.int i) H Q := .inr (.inl ⟨p, xs, i, v, rfl, rfl, SqT.of h, ha, q⟩)
end
end Ly

/-! Operators of own classes, static methods, keywords. -/
namespace Ly
open PySem PySem.Spec PyProof.Rows L2

/-! ### a def run where a special method is wanted -/
theorem rel_ni {v : V} {u : Value} (r : RelV v u) : u ≠ .notImplemented := by
  intro z
  subst z
  cases v <;> first | (cases r; done) | (obtain ⟨_, q⟩ := r; exact Value.noConfusion q)
theorem cmpback {X : Cx} {pins : List (Addr × Obj)} {σ : L2.St} {Q : VK} {t : Sem Value} {A : Around} {s : Shared} (h : wpAny (model X.prog X.w) A t (EP X pins σ Q) X.xe s) :
    wpAny (model X.prog X.w) A t (PySem.W.CmpBack (EP X pins σ Q)) X.xe s := by
  refine wpAny_mono h (fun u s' q => ?_) fun _ _ e => e
  obtain ⟨v, H', I, r, q⟩ := q
  have n := rel_ni r
  cases u <;> first | exact (n rfl).elim | exact ⟨v, H', I, r, q⟩

section
variable {X : Cx} {C f : Addr} {fd : FuncData} {ps : List Str} {sp : Sp} {k : Nat} {op : Operator}
/-- both of one own class -/
def rOwn2 (C : Addr) (sp : Sp) : R2 := fun x y H Q => ∃ a b dx dy fs gs, x = .ref a ∧ y = .ref b ∧ H a = some (.ins C dx fs) ∧ H b = some (.ins C dy gs) ∧ sp [x, y] H Q E0
theorem op_own2 (F : FnOk X.prog X.w X.K X.mg X.base CX0 k f fd ps sp) (hr : Room k X.A) (hb : Binds X.K fd ps []) (hs : PySem.W.findIn X.K (.ref C) (PySem.dunder op.info.2) = some (some (.ref f)))
    (hf : PySem.W.isFn X.K (.ref f) = true) (hc : PySem.W.selfFirst X.K C = true) : OpR X (binaryOp op) (rOwn2 C sp) := by
  intro pins s σ H x y v u Q I rx ry q
  obtain ⟨a, b, dx, dy, fs, gs, rfl, rfl, ha, hb', q⟩ := q
  cases rx
  cases ry
  obtain ⟨mA, J, _⟩ := ins_get I.hok ha
  obtain ⟨mB, J', _⟩ := ins_get I.hok hb'
  obtain ⟨od, J, _⟩ := J.look
  obtain ⟨od', J', _⟩ := J'.look
  obtain ⟨m, hF⟩ := I.fr
  exact PySem.W.binop_K hF I.ok.mod.kin J J'.type hc hs hf (cmpback (run_fn (us := [.ref a, .ref b]) (vs := [.ref a, .ref b]) F hr hb .nil pass0 I (.cons rfl (.cons rfl .nil)) q))
/-- own op int -/
def rOwnI (C : Addr) (sp : Sp) : R2 := fun x y H Q => ∃ a i dx fs, x = .ref a ∧ y = .int i ∧ H a = some (.ins C dx fs) ∧ sp [x, y] H Q E0
theorem op_ownI {fo ro rc : Option Value} (F : FnOk X.prog X.w X.K X.mg X.base CX0 k f fd ps sp) (hr : Room k X.A) (hb : Binds X.K fd ps []) (hs : PySem.W.findIn X.K (.ref C) (PySem.dunder op.info.2) = some (some (.ref f)))
    (hf : PySem.W.isFn X.K (.ref f) = true) (hc : PySem.W.selfFirst X.K C = true) (hrc : PySem.W.findIn X.K (.ref C) (dunderR op.info.2) = some rc) (hp : rc = none ∨ ∃ g : Addr, rc = some (.ref g))
    (h1 : PySem.W.findIn X.K (.type "int") (PySem.dunder op.info.2) = some fo) (h2 : PySem.W.findIn X.K (.type "int") (dunderR op.info.2) = some ro) (hsub : PySem.W.subIn X.K (.type "int") (.ref C) = some false) : OpR X (binaryOp op) (rOwnI C sp) := by
  intro pins s σ H x y v u Q I rx ry q
  obtain ⟨a, i, dx, fs, rfl, rfl, ha, q⟩ := q
  cases rx
  obtain ⟨t, rfl⟩ := ry
  obtain ⟨mA, J, _⟩ := ins_get I.hok ha
  obtain ⟨od, J, _⟩ := J.look
  obtain ⟨m, hF⟩ := I.fr
  exact PySem.W.ksp_binT (T := "int") hF I.ok.mod.kin J rfl hc hs hf hrc hp h1 h2 hsub (cmpback (run_fn (us := [.ref a, .int i t]) (vs := [.ref a, .int i]) F hr hb .nil pass0 I (.cons rfl (.cons ⟨t, rfl⟩ .nil)) q))
/-- - own -/
def uOwn (C : Addr) (sp : Sp) : V → Hp → VK → Prop := fun x H Q => ∃ a dx fs, x = .ref a ∧ H a = some (.ins C dx fs) ∧ sp [x] H Q E0
theorem un_own (F : FnOk X.prog X.w X.K X.mg X.base CX0 k f fd ps sp) (hr : Room k X.A) (hb : Binds X.K fd ps []) (hs : PySem.W.findIn X.K (.ref C) "__neg__" = some (some (.ref f)))
    (hf : PySem.W.isFn X.K (.ref f) = true) : UnR X (unaryOp .USub) (uOwn C sp) := by
  intro pins s σ H x v Q I rx q
  obtain ⟨a, dx, fs, rfl, ha, q⟩ := q
  cases rx
  obtain ⟨mA, J, _⟩ := ins_get I.hok ha
  obtain ⟨od, J, _⟩ := J.look
  obtain ⟨m, hF⟩ := I.fr
  exact PySem.W.ksp_neg hF I.ok.mod.kin J hs hf (run_fn (us := [.ref a]) (vs := [.ref a]) F hr hb .nil pass0 I (.cons rfl .nil) q)
end

/-! ### int op own: the reflected method -/
section
open PySem.W PySem.Calls
variable {M : Model} {A : Around} {E : Value → Shared → Prop} {s : Shared} {Q : Fin → Shared → Prop}
theorem asInt_inst {y C dx : Addr} {Q : Option Int → Shared → Prop} (ho : s.heap.get? y = some (instObj C dx)) (q : Q none s) : wpAny M A (asInt? (.ref y)) Q E s := by
  unfold asInt?
  refine wpAny_bind (wpAny_load ho ?_)
  exact wpAny_pure q
theorem bin_ni {nm : String} {f : Int → Int → Sem Fin} {i : Int} {t : Tok} {y C dx : Addr} (ho : s.heap.get? y = some (instObj C dx)) (q : Q (.done (.ret .notImplemented)) s) :
    wpAny M A (Builtin.Int.intBinary nm f false ⟨[.int i t, .ref y], []⟩) Q E s := by
  unfold Builtin.Int.intBinary
  refine wpAny_bind (m := slotArgs nm 1 ⟨[.int i t, .ref y], []⟩) ?_
  have e : slotArgs nm 1 ⟨[.int i t, .ref y], []⟩ = pure (.int i t, [.ref y]) := by
    first | rfl | kernel_rfl
  rw [e]
  refine wpAny_pure ?_
  refine wpAny_bind ?_
  unfold Builtin.Int.intOfSelf
  refine wpAny_bind (m := asInt? (.int i t)) (wpAny_pure (wpAny_pure ?_))
  refine wpAny_bind (asInt_inst ho ?_)
  refine wpAny_bind (wpAny_rule ?_)
  exact wpAny_pure q
end
/-- an int's own operator, and that it declines an instance -/
structure IntOp (nm : String) (id : String) (B : Builtin) : Prop where
  slot : Slot "int" (PySem.dunder nm) id
  entry : entryFor table id = some B
  args : ∀ a b, argsOk id ⟨[a, b], []⟩
  ni : ∀ {M : Model} {A : Around} {E : Value → Shared → Prop} {s : Shared} {Q : Fin → Shared → Prop} {i : Int} {t : Tok} {y C dx : Addr}, s.heap.get? y = some (PySem.W.instObj C dx) → Q (.done (.ret .notImplemented)) s →
    wpAny M A (B ⟨[.int i t, .ref y], []⟩) Q E s
theorem io_add : IntOp "add" "int.__add__" Builtin.«int.__add__» := ⟨F.slot_int_add, F.entry_int_add, F.args_int_add_2, fun ho q => by
  unfold Builtin.«int.__add__»
  exact bin_ni ho q⟩
theorem io_sub : IntOp "sub" "int.__sub__" Builtin.«int.__sub__» := ⟨F.slot_int_sub, F.entry_int_sub, F.args_int_sub_2, fun ho q => by
  unfold Builtin.«int.__sub__»
  exact bin_ni ho q⟩
theorem io_mul : IntOp "mul" "int.__mul__" Builtin.«int.__mul__» := ⟨F.slot_int_mul, F.entry_int_mul, F.args_int_mul_2, fun ho q => by
  unfold Builtin.«int.__mul__»
  exact bin_ni ho q⟩
theorem io_mod : IntOp "mod" "int.__mod__" Builtin.«int.__mod__» := ⟨F.slot_int_mod, F.entry_int_mod, F.args_int_mod_2, fun ho q => by
  unfold Builtin.«int.__mod__»
  exact bin_ni ho q⟩
theorem io_fd : IntOp "floordiv" "int.__floordiv__" Builtin.«int.__floordiv__» := ⟨F.slot_int_floordiv, F.entry_int_floordiv, F.args_int_floordiv_2, fun {M A E s Q i t y C dx} ho q => by
  unfold Builtin.«int.__floordiv__» Builtin.exactOperandsForPylong
  refine wpAny_bind ?_
  rw [if_pos (show (({ pos := [Value.int i t, Value.ref y] } : Args).pos.any Value.onHeap = true) from rfl)]
  refine wpAny_bind (m := asInt? (.int i t)) (wpAny_pure (wpAny_bind (asInt_inst ho (wpAny_pure ?_))))
  exact bin_ni ho q⟩

section
open PySem.W
variable {X : Cx} {C f : Addr} {fd : FuncData} {ps : List Str} {sp : Sp} {k : Nat} {op : Operator}
def rIOwn (C : Addr) (sp : Sp) : R2 := fun x y H Q => ∃ a i dx fs, x = .int i ∧ y = .ref a ∧ H a = some (.ins C dx fs) ∧ sp [y, x] H Q E0
theorem op_Iown {id : String} {B : Builtin} {fo ro : Option Value} (io : IntOp op.info.2 id B) (F : FnOk X.prog X.w X.K X.mg X.base CX0 k f fd ps sp) (hr : Room k X.A) (hb : Binds X.K fd ps []) (hs : PySem.W.findIn X.K (.ref C) (dunderR op.info.2) = some (some (.ref f)))
    (hf : PySem.W.isFn X.K (.ref f) = true) (hc : PySem.W.selfFirst X.K C = true) {g : Addr} (hl : PySem.W.findIn X.K (.ref C) (PySem.dunder op.info.2) = some (some (.ref g)))
    (h1 : PySem.W.findIn X.K (.type "int") (PySem.dunder op.info.2) = some fo) (h2 : PySem.W.findIn X.K (.type "int") (dunderR op.info.2) = some ro) (h12 : ((fo.isSome && !isSeqSlot fo) || (ro.isSome && !isSeqSlot ro)) = true)
    (hsub : PySem.W.subIn X.K (.ref C) (.type "int") = some false) : OpR X (binaryOp op) (rIOwn C sp) := by
  intro pins s σ H x y v u Q I rx ry q
  obtain ⟨a, i, dx, fs, rfl, rfl, ha, q⟩ := q
  cases ry
  obtain ⟨t, rfl⟩ := rx
  obtain ⟨mA, J, _⟩ := ins_get I.hok ha
  have hinst : s.heap.get? a = some (instObj C dx) := by
    obtain ⟨_, _, _, e, _⟩ := (show ObjOk X.prog X.w H s.heap a (.ins C dx fs) from I.hok a _ ha)
    exact e
  obtain ⟨od, J, _⟩ := J.look
  obtain ⟨m, hF⟩ := I.fr
  have KX := I.kIn
  obtain ⟨cd, rest, hcd, hm⟩ := ksp_first hc
  rcases hi : op.info with ⟨sym, nm'⟩
  rw [hi] at hs h1 h2 hl io
  dsimp only at hs h1 h2 hl io
  have one := ksp_try (E := X.xe) (M := model X.prog X.w) KX J hs hf (cmpback (run_fn (us := [.ref a, .int i t]) (vs := [.ref a, .int i]) F hr hb .nil pass0 I (.cons rfl (.cons ⟨t, rfl⟩ .nil)) q))
  obtain ⟨hh, gg, d, tt, os⟩ := s
  have L1 : Looks (model X.prog X.w) hh (typeOf (.int i t)) (.type "int") := Looks.of_pure rfl
  have L2 : Looks (model X.prog X.w) hh (typeOf (.ref a)) (.ref C) := J.type
  have L3 : Looks (model X.prog X.w) hh (fillsNumberSlot (.type "int") nm') true := by
    have z := ksp_fillsT (M := model X.prog X.w) KX h1 h2
    rw [h12] at z
    exact z
  have L4 : Looks (model X.prog X.w) hh (fillsNumberSlot (.ref C) nm') true := fills_K KX hcd hm hl
  have L5 : Looks (model X.prog X.w) hh (isSubtype (.ref C) (.type "int")) false := looks_subIn KX hsub
  have L6 : Looks (model X.prog X.w) hh (numberSlotInPython (.type "int") nm') false := Looks.of_pure rfl
  have hne : (Value.type "int" == Value.ref C) = false := Bool.eq_false_iff.mpr fun q => by cases beq_iff_eq.mp q
  have two : wpAny (model X.prog X.w) X.A (tryMethod (.int i t) (PySem.dunder nm') (.ref a)) (fun r s' => r = none ∧ s' = ⟨hh, gg, d, tt, os⟩) X.xe ⟨hh, gg, d, tt, os⟩ := by
    refine wpAny_tryMethod_declines (typeIs_int _ i t) io.slot ?_
    refine GQ.call_here io.slot (typeIs_int _ i t) io.entry (io.args _ _) ?_
    exact io.ni hinst ⟨rfl, rfl, rfl⟩
  simp only [binaryOp, hi]
  refine wpAny_holding (wpAny_bind ?_)
  unfold binaryOp1
  refine wpAny_bind (L1.at (wpAny_bind (L2.at (wpAny_bind (L3.at ?_)))))
  simp only [hne, Bool.false_eq_true, if_false]
  ksp_lk
  refine wpAny_mono two (fun r s' hr' => ?_) fun _ _ e => e
  obtain ⟨rfl, rfl⟩ := hr'
  ksp_lk
  refine wpAny_mono one (fun r s' hr' => ?_) fun _ _ e => e
  obtain ⟨v, rfl, hq⟩ := hr'
  ksp_lk
  exact hq
end

/-! ### abs, str, repr of an instance by its own method -/
section
open PySem.W PySem.Calls
variable {X : Cx} {C f : Addr} {fd : FuncData} {ps : List Str} {sp : Sp} {k : Nat}
/-- a def run somewhere below the running body -/
theorem run_at {pins : List (Addr × Obj)} {σ : L2.St} {H : Hp} {s : Shared} {Q : VK} {us : List Value} {vs : List V} {A' : Around} {E' : Value → Shared → Prop} (F : FnOk X.prog X.w X.K X.mg X.base CX0 k f fd ps sp) (hr : Room k A') (hfr : A'.frames = X.A.frames) (hb : Binds X.K fd ps [])
    (I : Inv X pins σ H s) (r : Vals vs us) (h : sp vs H Q E0) : wpAny (model X.prog X.w) A' (call (.ref f) us) (EP X pins σ Q) E' s := by
  have e0 : Env0 X.prog X.w X.K X.mg X.base A' X.stack s H := by
    have e := I.env0
    exact ⟨by rw [hfr]; exact e.frames, e.mod, e.bs, e.bsz, e.funs, e.frf, e.hok, e.bare⟩
  have hl : (us ++ []).length = ps.length := by
    rw [List.append_nil, ← r.length]
    exact F.len _ _ _ _ h
  refine wpAny_call (codeAny_mono (F.run A' X.stack s H ⟨us, []⟩ us vs Q E0 hr e0 (by
    have z := hb s us I.kIn hl
    rw [List.append_nil] at z
    exact z) r h) fun r s' hq => ?_)
  cases r with
  | error e => exact False.elim hq
  | ok fl =>
    cases fl with
    | ret u => exact I.after hq
    | next => exact False.elim hq
    | brk => exact False.elim hq
    | cont => exact False.elim hq

def rCOwn (C : Addr) (sp : Sp) : List V → Hp → VK → Prop := fun xs H Q => ∃ a dx fs, xs = [.ref a] ∧ H a = some (.ins C dx fs) ∧ sp [.ref a] H Q E0
theorem call_abs_own (F : FnOk X.prog X.w X.K X.mg X.base CX0 k f fd ps sp) (hr : Room (k + 1) X.A) (hb : Binds X.K fd ps []) (hs : PySem.W.findIn X.K (.ref C) "__abs__" = some (some (.ref f)))
    (hf : PySem.W.isFn X.K (.ref f) = true) : CallR X (.builtin "abs") (rCOwn C sp) := by
  intro pins s σ H xs us Q I r q
  obtain ⟨a, dx, fs, rfl, ha, q⟩ := q
  obtain ⟨u, rfl, ru⟩ := vals1 r
  cases ru
  obtain ⟨mA, J, _⟩ := ins_get I.hok ha
  obtain ⟨od, J, _⟩ := J.look
  refine call_function_entry kind_abs plain_abs entry_abs (args_abs _) ?_
  unfold Builtin.«abs»
  refine wpAny_bind (m := oneArg "abs" _) (wpAny_pure ?_)
  refine wpAny_bind (m := callSpecial? (.ref a) (Str.ofString "__abs__")) (special_fn I.kIn J hs (beq_iff_eq.mp hf) ?_)
  refine wpAny_mono (run_at (us := [.ref a]) (vs := [.ref a]) F hr.in1 rfl hb I (.cons rfl .nil) q) (fun v s' hv => ?_) fun _ _ e => e
  exact wpAny_pure ⟨v, rfl, hv⟩

theorem meetsIn_str_new {prog : Program} {w : World} {v : Value} : MeetsIn prog w (Builtin.«str.__new__» ⟨[.type "str", v], []⟩)
    (fun A R s => wpAny (model prog w) A.in1 (Builtin.Str.strOf v) (fun r s' => R (.ok (.ret r)) s') (fun e s' => R (.error e) s') s) := by
  refine MeetsIn.of_wp fun A R s h => ?_
  rw [str_new_tree v]
  refine wpAny_bind (wpAny_pure ?_)
  refine wpAny_bind (wpAny_of_eq isSubtype_str_str ?_)
  exact wpAny_bind (wpAny_mono h (fun r s' h' => wpAny_pure ⟨_, rfl, h'⟩) fun _ _ e => e)
theorem room_in1s {k : Nat} {A : Around} (r : Room (k + 2) A) : Room k A.in1.in1 := r.in1.in1
theorem call_str_own (F : FnOk X.prog X.w X.K X.mg X.base CX0 k f fd ps sp) (hr : Room (k + 3) X.A) (hb : Binds X.K fd ps []) (hs : PySem.W.findIn X.K (.ref C) "__str__" = some (some (.ref f)))
    (hf : PySem.W.isFn X.K (.ref f) = true) : CallR X (.type "str") (fun xs H Q => ∃ a dx fs, xs = [.ref a] ∧ H a = some (.ins C dx fs) ∧ sp [.ref a] H (fun v H' => (∃ z, v = .str z) ∧ Q v H') E0) := by
  intro pins s σ H xs us Q I r q
  obtain ⟨a, dx, fs, rfl, ha, q⟩ := q
  obtain ⟨u, rfl, ru⟩ := vals1 r
  cases ru
  obtain ⟨mA, J, _⟩ := ins_get I.hok ha
  obtain ⟨od, J, _⟩ := J.look
  refine callType_newIn PySem.F.called_str (by decide) (PySem.F.typeCall_str_1 _) (PySem.F.newCall_str_1 _) (fun obj => PySem.F.args_object_init_2 obj _) PySem.F.entry_str_new meetsIn_str_new ?_
  show wpAny (model X.prog X.w) X.A.in1.in1 (Builtin.Str.strOf (.ref a)) _ _ s
  unfold Builtin.Str.strOf
  rw [if_neg (show ¬ Builtin.Str.isExactStr (Value.ref a) = true from Bool.false_ne_true)]
  refine wpAny_bind (wpAny_cRoomFor (room_in1s hr).units0 ?_)
  refine wpAny_bind (m := callSpecial? (.ref a) (Str.ofString "__str__")) (special_fn I.kIn J hs (beq_iff_eq.mp hf) ?_)
  refine wpAny_mono (run_at (us := [.ref a]) (vs := [.ref a]) F ((room_in1s hr).mono (Nat.le_succ k)) rfl hb I (.cons rfl .nil) q) (fun v s' hv => ?_) fun _ _ e => e
  obtain ⟨v0, H', I', rv, ⟨z, rfl⟩, qv⟩ := hv
  obtain ⟨tk, rfl⟩ := rv
  refine wpAny_bind (m := asStr? (.str z tk)) (wpAny_pure ?_)
  exact wpAny_pure ⟨typeIs_str _ _ _, ⟨.str z, H', I', ⟨tk, rfl⟩, qv⟩⟩
def rSOwn (C : Addr) (sp : Sp) : List V → Hp → VK → Prop := fun xs H Q => ∃ a dx fs, xs = [.ref a] ∧ H a = some (.ins C dx fs) ∧ sp [.ref a] H (fun v H' => (∃ z, v = .str z) ∧ Q v H') E0
theorem call_repr_own (F : FnOk X.prog X.w X.K X.mg X.base CX0 k f fd ps sp) (hr : Room (k + 2) X.A) (hb : Binds X.K fd ps []) (hs : PySem.W.findIn X.K (.ref C) "__repr__" = some (some (.ref f)))
    (hf : PySem.W.isFn X.K (.ref f) = true) : CallR X (.builtin "repr") (rSOwn C sp) := by
  intro pins s σ H xs us Q I r q
  obtain ⟨a, dx, fs, rfl, ha, q⟩ := q
  obtain ⟨u, rfl, ru⟩ := vals1 r
  cases ru
  obtain ⟨mA, J, _⟩ := ins_get I.hok ha
  obtain ⟨od, J, _⟩ := J.look
  obtain ⟨m, hF⟩ := I.fr
  refine repr_K (show X.A.in1.units < cLine from (show Room (k + 1) X.A.in1 from hr.in1).units0) hF I.ok.mod.kin J hs hf ?_
  refine wpAny_mono (run_at (us := [.ref a]) (vs := [.ref a]) F ((show Room (k + 1) X.A.in1 from hr.in1).mono (Nat.le_succ k)) rfl hb I (.cons rfl .nil) q) (fun v s' hv => ?_) fun _ _ e => e
  obtain ⟨v0, H', I', rv, ⟨z, rfl⟩, qv⟩ := hv
  obtain ⟨tk, rfl⟩ := rv
  exact ⟨.str z, H', I', ⟨tk, rfl⟩, qv⟩
end

/-! ### == and != by an own __eq__ -/
theorem ne_slot : Slot "object" "__ne__" "object.__ne__" :=
  .of (owner := "object") (n := "__ne__") (by rw [typeLookup_type, builtinLookup_eq_fast]; kernel_rfl) (by decide +kernel) (by decide +kernel) (by decide +kernel) (.inl (by decide +kernel)) (by rw [isSubtype_type]; kernel_rfl)
section
open PySem.W PySem.Calls
variable {X : Cx} {C f : Addr} {fd : FuncData} {ps : List Str} {sp : Sp} {k : Nat}
theorem ifBound_bi {K : PySem.W.Frag} {M : Model} {A : Around} {E : Value → Shared → Prop} {s : Shared} {x : Addr} {ox : Obj} {od : Option Obj} {name : Str} {id : String} {args : List Value} {Q : Option Value → Shared → Prop} (KX : K.In s.heap) (J : InstAt s.heap x ox C od)
    (hs : findIn K (.ref C) name = some (some (.builtin id))) (hb : ∀ self, bindSpecial (.builtin id) self = pure (.builtin id, [self]))
    (h : wpAny M A (call (.builtin id) (.ref x :: args)) (fun v => Q (some v)) E s) : wpAny M A (callSpecialIfBound? (.ref x) name args) Q E s := by
  simp only [callSpecialIfBound?, bindSpecialIfBound?]
  refine wpAny_holding (wpAny_bind (wpAny_bind (wpAny_bind (J.type.here ((looks_findIn KX hs).here ?_)))))
  simp only [hb]
  refine wpAny_bind (wpAny_askSetting (wpAny_ite ?_))
  have fin : wpAny M A (call (.builtin id) ([.ref x] ++ args) >>= fun v => pure (some v)) Q E s := wpAny_bind (wpAny_mono h (fun v s' h' => wpAny_pure h') fun _ _ h' => h')
  split
  · exact wpAny_bind (wpAny_pure (wpAny_pure fin))
  · exact wpAny_tryCatch (wpAny_bind (wpAny_pure (wpAny_pure fin)))

/-- what an own == is asked: a bool comes back -/
abbrev bq (g : Bool → Bool) (Q : VK) : VK := fun v H' => ∃ b, v = .bl b ∧ Q (.bl (g b)) H'
theorem ne_run {A' : Around} {E' : Value → Shared → Prop} {pins : List (Addr × Obj)} {σ : L2.St} {H : Hp} {s : Shared} {Q : VK} {a dx : Addr} {fs : List (Str × V)} {y : V} {u : Value} (F : FnOk X.prog X.w X.K X.mg X.base CX0 k f fd ps sp) (hr : Room (k + 2) A') (hfr : A'.frames = X.A.frames) (hb : Binds X.K fd ps [])
    (hs : findIn X.K (.ref C) "__eq__" = some (some (.ref f))) (hf : isFn X.K (.ref f) = true) (hob : subIn X.K (.ref C) (.type "object") = some true)
    (I : Inv X pins σ H s) (ha : H a = some (.ins C dx fs)) (ry : RelV y u) (q : sp [.ref a, y] H (bq not Q) E0) :
    wpAny (model X.prog X.w) A' (call (.builtin "object.__ne__") [.ref a, u]) (fun v s' => v ≠ .notImplemented ∧ EP X pins σ Q v s') E' s := by
  obtain ⟨mA, J, _⟩ := ins_get I.hok ha
  obtain ⟨od, J, _⟩ := J.look
  have KX := I.kIn
  obtain ⟨m, hF⟩ := I.fr
  have sub : Looks (model X.prog X.w) s.heap (isInstance (.ref a) (.type "object")) true := J.type.andThen (looks_subIn KX hob)
  refine wpAny_call (codeAny_call_builtin ne_slot.plain PySem.F.cmpEntry_ne (W.check_slot PySem.F.cmpKind_ne PySem.F.cmpSplit_ne sub (PySem.F.cmpArgs_ne _ _) ?_))
  unfold Builtin.«object.__ne__»
  refine wpAny_bind (m := slotArgs "__ne__" 1 ⟨[.ref a, u], []⟩) ?_
  rw [show slotArgs "__ne__" 1 ⟨[.ref a, u], []⟩ = pure (.ref a, [u]) by first | rfl | kernel_rfl]
  refine wpAny_pure ?_
  refine wpAny_bind (wpAny_cRoomFor (show A'.in1.units < cLine from (show Room (k + 1) A'.in1 from hr.in1).units0) ?_)
  refine wpAny_bind (m := callSpecialIfBound? (.ref a) (Str.ofString "__eq__") [u]) (ifBound_K KX J hs hf ?_)
  refine wpAny_mono (run_at (us := [.ref a, u]) (vs := [.ref a, y]) F ((show Room (k + 1) A'.in1 from hr.in1).mono (Nat.le_succ k)) (by exact hfr) hb I (.cons rfl (.cons ry .nil)) q) (fun v s' hv => ?_) fun _ _ e => e
  obtain ⟨v0, H', I', rv, b, rfl, qv⟩ := hv
  cases rv
  refine wpAny_bind (wpAny_truthy_bool ?_)
  exact wpAny_pure ⟨(fun z => nomatch z), .bl (!b), H', I', rfl, qv⟩

/-- own == anything whose type is not below the class -/
def rEqOwn (C : Addr) (sp : Sp) : R2 := fun x y H Q => ∃ a dx fs, x = .ref a ∧ H a = some (.ins C dx fs) ∧ ((∃ b dy gs, y = .ref b ∧ H b = some (.ins C dy gs)) ∨ ∃ i, y = .int i) ∧ sp [x, y] H Q E0
theorem op_eq_own (F : FnOk X.prog X.w X.K X.mg X.base CX0 k f fd ps sp) (hr : Room k X.A) (hb : Binds X.K fd ps []) (hs : findIn X.K (.ref C) "__eq__" = some (some (.ref f))) (hf : isFn X.K (.ref f) = true)
    (hn : notFirst X.K C (.type "int") = true) : OpR X (compareOp .Eq) (rEqOwn C sp) := by
  intro pins s σ H x y v u Q I rx ry q
  obtain ⟨a, dx, fs, rfl, ha, hy, q⟩ := q
  cases rx
  obtain ⟨mA, J, _⟩ := ins_get I.hok ha
  obtain ⟨od, J, _⟩ := J.look
  obtain ⟨m, hF⟩ := I.fr
  have body := cmpback (run_fn (us := [.ref a, u]) (vs := [.ref a, y]) (Q := Q) F hr hb .nil pass0 I (.cons rfl (.cons ry .nil)) q)
  rcases hy with ⟨b, dy, gs, rfl, hb'⟩ | ⟨i, rfl⟩
  · cases ry
    obtain ⟨mB, J', _⟩ := ins_get I.hok hb'
    obtain ⟨od', J', _⟩ := J'.look
    exact PySem.W.cmp_K (op := .Eq) (tb := .ref C) hr.units0 hF I.ok.mod.kin J J'.type (by simp [PySem.W.notFirst]) hs hf body
  · obtain ⟨t, rfl⟩ := ry
    exact PySem.W.cmp_K (op := .Eq) (tb := .type "int") hr.units0 hF I.ok.mod.kin J (Looks.of_pure rfl) hn hs hf body
/-- own != own, own != int -/
def rNeOwn (C : Addr) (sp : Sp) : R2 := fun x y H Q => ∃ a dx fs, x = .ref a ∧ H a = some (.ins C dx fs) ∧ ((∃ b dy gs, y = .ref b ∧ H b = some (.ins C dy gs)) ∨ ∃ i, y = .int i) ∧ sp [x, y] H (bq not Q) E0
theorem op_ne_own (F : FnOk X.prog X.w X.K X.mg X.base CX0 k f fd ps sp) (hr : Room (k + 3) X.A) (hb : Binds X.K fd ps []) (hs : findIn X.K (.ref C) "__eq__" = some (some (.ref f))) (hf : isFn X.K (.ref f) = true)
    (hn : findIn X.K (.ref C) "__ne__" = some (some (.builtin "object.__ne__"))) (hob : subIn X.K (.ref C) (.type "object") = some true) (hi : subIn X.K (.type "int") (.ref C) = some false) : OpR X (compareOp .NotEq) (rNeOwn C sp) := by
  intro pins s σ H x y v u Q I rx ry q
  obtain ⟨a, dx, fs, rfl, ha, hy, q⟩ := q
  cases rx
  obtain ⟨mA, J, _⟩ := ins_get I.hok ha
  obtain ⟨od, J, _⟩ := J.look
  have KX := I.kIn
  have one : wpAny (model X.prog X.w) X.A (tryCompare (.ref a) (Str.ofString "__ne__") u) (fun r s' => ∃ v, r = some v ∧ EP X pins σ Q v s') X.xe s := by
    unfold tryCompare
    refine wpAny_bind (ifBound_bi KX J hn ne_slot.bind (wpAny_mono (ne_run (E' := X.xe) F (hr.mono (Nat.le_succ _)) rfl hb hs hf hob I ha ry q) (fun v s' hv => ?_) fun _ _ e => e))
    obtain ⟨h1, h2⟩ := hv
    cases v <;> first | exact (h1 rfl).elim | exact wpAny_pure ⟨_, rfl, h2⟩
  show wpAny _ _ (richCompare .NotEq (.ref a) u) _ _ _
  unfold richCompare
  simp only [oneThing_ref]
  refine wpAny_holding (wpAny_bind (wpAny_cRoomFor hr.units0 ?_))
  rcases hy with ⟨b, dy, gs, rfl, hb'⟩ | ⟨i, rfl⟩
  · cases ry
    obtain ⟨mB, J', _⟩ := ins_get I.hok hb'
    obtain ⟨od', J', _⟩ := J'.look
    refine wpAny_bind (J.type.here (wpAny_bind (J'.type.here ?_)))
    rw [if_neg (by simp)]
    refine wpAny_bind (wpAny_pure ?_)
    simp only [Bool.false_eq_true, if_false]
    refine wpAny_bind (wpAny_mono one (fun r s' z => ?_) fun _ _ e => e)
    obtain ⟨v, rfl, hq⟩ := z
    exact wpAny_pure hq
  · obtain ⟨t, rfl⟩ := ry
    refine wpAny_bind (J.type.here (wpAny_bind ((Looks.of_pure (M := model X.prog X.w) (h := s.heap) (t := typeOf (.int i t)) (r := Value.type "int") rfl).here ?_)))
    rw [if_pos (by simp)]
    refine wpAny_bind ((looks_subIn KX hi).here ?_)
    simp only [Bool.false_eq_true, if_false]
    refine wpAny_bind (wpAny_mono one (fun r s' z => ?_) fun _ _ e => e)
    obtain ⟨v, rfl, hq⟩ := z
    exact wpAny_pure hq
/-- int == own, int != own -/
theorem icmp_eq {M : Model} {A : Around} {E : Value → Shared → Prop} {s : Shared} {Q : Fin → Shared → Prop} {i : Int} {t : Tok} {y C dx : Addr} (ho : s.heap.get? y = some (PySem.W.instObj C dx)) (q : Q (.done (.ret .notImplemented)) s) :
    wpAny M A (Builtin.«int.__eq__» ⟨[.int i t, .ref y], []⟩) Q E s := by
  unfold Builtin.«int.__eq__»
  exact bin_ni ho q
theorem icmp_ne {M : Model} {A : Around} {E : Value → Shared → Prop} {s : Shared} {Q : Fin → Shared → Prop} {i : Int} {t : Tok} {y C dx : Addr} (ho : s.heap.get? y = some (PySem.W.instObj C dx)) (q : Q (.done (.ret .notImplemented)) s) :
    wpAny M A (Builtin.«int.__ne__» ⟨[.int i t, .ref y], []⟩) Q E s := by
  unfold Builtin.«int.__ne__»
  exact bin_ni ho q
theorem inst_of {H : Hp} {h : Heap} {P : Program} {w : World} {a C dx : Addr} {fs : List (Str × V)} (hok : HOk P w H h) (ha : H a = some (.ins C dx fs)) : h.get? a = some (instObj C dx) := by
  obtain ⟨_, _, _, e, _⟩ := (show ObjOk P w H h a (.ins C dx fs) from hok a _ ha)
  exact e
/-- int == own, int != own; the own method is asked with the sides exchanged -/
def rIEqOwn (C : Addr) (sp : Sp) (g : Bool → Bool) : R2 := fun x y H Q => ∃ a dx fs i, y = .ref a ∧ x = .int i ∧ H a = some (.ins C dx fs) ∧ sp [y, x] H (bq g Q) E0
theorem op_eq_Iown (F : FnOk X.prog X.w X.K X.mg X.base CX0 k f fd ps sp) (hr : Room k X.A) (hb : Binds X.K fd ps []) (hs : findIn X.K (.ref C) "__eq__" = some (some (.ref f))) (hf : isFn X.K (.ref f) = true)
    (hi : subIn X.K (.ref C) (.type "int") = some false) : OpR X (compareOp .Eq) (rIEqOwn C sp id) := by
  intro pins s σ H x y v u Q I rx ry q
  obtain ⟨a, dx, fs, i, rfl, rfl, ha, q⟩ := q
  cases ry
  obtain ⟨t, rfl⟩ := rx
  obtain ⟨mA, J, _⟩ := ins_get I.hok ha
  obtain ⟨od, J, _⟩ := J.look
  have KX := I.kIn
  have one : wpAny (model X.prog X.w) X.A (tryCompare (.int i t) (Str.ofString "__eq__") (.ref a)) (fun r s' => r = none ∧ s' = s) X.xe s :=
    wpAny_tryCompare_declines (typeIs_int _ i t) PySem.F.slot_int_eq (GQ.call_here PySem.F.slot_int_eq (typeIs_int _ i t) PySem.F.entry_int_eq (PySem.F.args_int_eq_2 _ _) (icmp_eq (inst_of I.hok ha) ⟨rfl, rfl, rfl⟩))
  have two : wpAny (model X.prog X.w) X.A (tryCompare (.ref a) (Str.ofString "__eq__") (.int i t)) (fun r s' => ∃ v, r = some v ∧ EP X pins σ Q v s') X.xe s := by
    unfold tryCompare
    refine wpAny_bind (ifBound_K KX J hs hf (wpAny_mono (run_fn (us := [.ref a, .int i t]) (vs := [.ref a, .int i]) F hr hb .nil pass0 I (.cons rfl (.cons ⟨t, rfl⟩ .nil)) q) (fun v s' hv => ?_) fun _ _ e => e))
    obtain ⟨v0, H', I', rv, b, rfl, qv⟩ := hv
    cases rv
    exact wpAny_pure ⟨_, rfl, .bl b, H', I', rfl, qv⟩
  show wpAny _ _ (richCompare .Eq (.int i t) (.ref a)) _ _ _
  unfold richCompare
  refine wpAny_holding (wpAny_bind (wpAny_cRoomFor hr.units0 ?_))
  rw [show oneThing? CmpOp.Eq (.int i t) (.ref a) = none from rfl]
  refine wpAny_bind ((Looks.of_pure (M := model X.prog X.w) (h := s.heap) (t := typeOf (.int i t)) (r := Value.type "int") rfl).here (wpAny_bind (J.type.here ?_)))
  rw [if_pos (by simp)]
  refine wpAny_bind ((looks_subIn KX hi).here ?_)
  simp only [Bool.false_eq_true, if_false, Bool.not_false, if_true]
  refine wpAny_bind (wpAny_mono one (fun r s' z => ?_) fun _ _ e => e)
  obtain ⟨rfl, rfl⟩ := z
  refine wpAny_bind (wpAny_mono two (fun r s' z => ?_) fun _ _ e => e)
  obtain ⟨v, rfl, hq⟩ := z
  exact wpAny_pure hq
theorem op_ne_Iown (F : FnOk X.prog X.w X.K X.mg X.base CX0 k f fd ps sp) (hr : Room (k + 3) X.A) (hb : Binds X.K fd ps []) (hs : findIn X.K (.ref C) "__eq__" = some (some (.ref f))) (hf : isFn X.K (.ref f) = true)
    (hn : findIn X.K (.ref C) "__ne__" = some (some (.builtin "object.__ne__"))) (hob : subIn X.K (.ref C) (.type "object") = some true) (hi : subIn X.K (.ref C) (.type "int") = some false) : OpR X (compareOp .NotEq) (rIEqOwn C sp not) := by
  intro pins s σ H x y v u Q I rx ry q
  obtain ⟨a, dx, fs, i, rfl, rfl, ha, q⟩ := q
  cases ry
  obtain ⟨t, rfl⟩ := rx
  obtain ⟨mA, J, _⟩ := ins_get I.hok ha
  obtain ⟨od, J, _⟩ := J.look
  have KX := I.kIn
  have one : wpAny (model X.prog X.w) X.A (tryCompare (.int i t) (Str.ofString "__ne__") (.ref a)) (fun r s' => r = none ∧ s' = s) X.xe s :=
    wpAny_tryCompare_declines (typeIs_int _ i t) PySem.F.slot_int_ne (GQ.call_here PySem.F.slot_int_ne (typeIs_int _ i t) PySem.F.entry_int_ne (PySem.F.args_int_ne_2 _ _) (icmp_ne (inst_of I.hok ha) ⟨rfl, rfl, rfl⟩))
  have two : wpAny (model X.prog X.w) X.A (tryCompare (.ref a) (Str.ofString "__ne__") (.int i t)) (fun r s' => ∃ v, r = some v ∧ EP X pins σ Q v s') X.xe s := by
    unfold tryCompare
    refine wpAny_bind (ifBound_bi KX J hn ne_slot.bind (wpAny_mono (ne_run (E' := X.xe) (y := .int i) F (hr.mono (Nat.le_succ _)) rfl hb hs hf hob I ha (show RelV (.int i) (.int i t) from ⟨t, rfl⟩) q) (fun v s' hv => ?_) fun _ _ e => e))
    obtain ⟨h1, h2⟩ := hv
    cases v <;> first | exact (h1 rfl).elim | exact wpAny_pure ⟨_, rfl, h2⟩
  show wpAny _ _ (richCompare .NotEq (.int i t) (.ref a)) _ _ _
  unfold richCompare
  refine wpAny_holding (wpAny_bind (wpAny_cRoomFor hr.units0 ?_))
  rw [show oneThing? CmpOp.NotEq (.int i t) (.ref a) = none from rfl]
  refine wpAny_bind ((Looks.of_pure (M := model X.prog X.w) (h := s.heap) (t := typeOf (.int i t)) (r := Value.type "int") rfl).here (wpAny_bind (J.type.here ?_)))
  rw [if_pos (by simp)]
  refine wpAny_bind ((looks_subIn KX hi).here ?_)
  simp only [Bool.false_eq_true, if_false, Bool.not_false, if_true]
  refine wpAny_bind (wpAny_mono one (fun r s' z => ?_) fun _ _ e => e)
  obtain ⟨rfl, rfl⟩ := z
  refine wpAny_bind (wpAny_mono two (fun r s' z => ?_) fun _ _ e => e)
  obtain ⟨v, rfl, hq⟩ := z
  exact wpAny_pure hq
end
end Ly
namespace Ly
open PySem PySem.Spec PyProof.Rows L2
/-! ### static methods, keywords -/
/-- C.m is a static method: its record at p, its def at g -/
structure SMet (K : PySem.W.Frag) (C : Addr) (mc : Value) (m : Str) (p g : Addr) : Prop where
  at_ : PySem.W.findCls K (.ref C) mc m = some (.get (.builtin "staticmethod.__get__") (.ref p) .none (.ref C))
  rc : ∃ rest, PySem.W.recIn K p "staticmethod" = some (.ref g :: rest)
  kp : PySem.W.keepIn K (.ref g) = true
def tSMeth (C : Addr) (sp : Sp) (dvs : List V) (ta : TE) (t : TA) : TE := fun σ H Q => ta σ H fun x H1 => x = .ref C ∧ t σ H1 fun vs H2 => sp (vs ++ dvs) H2 Q E0
def tSMethK (C : Addr) (sp : Sp) (gV : List V → List V → List V) (ta : TE) (t tk : TA) : TE := fun σ H Q => ta σ H fun x H1 => x = .ref C ∧ t σ H1 fun vs H2 => tk σ H2 fun zs H3 => sp (gV vs zs) H3 Q E0
section
variable {X : Cx} {k : Nat} {C p g : Addr} {mc : Value} {fd : FuncData} {ps ks : List Str} {sp : Sp} {o e : Expr} {es : List Expr} {kws : List Keyword} {m : Str} {pos apos : Pos} {ta : TE} {t tk : TA} {pl : Sem Bool} {dvs : List V} {ds : List Value} {gv : List Value → List Value → List Value} {gV : List V → List V → List V}
theorem getsm_ok {pins : List (Addr × Obj)} {σ : L2.St} {H : Hp} {s : Shared} {A : Around} {E : Value → Shared → Prop} {Q : Value × List Value → Shared → Prop} (I : Inv X pins σ H s) (r : ClX.CRead X.K C mc) (c : SMet X.K C mc m p g)
    (h : ∀ s', Inv X pins σ H s' → Q (.ref g, []) s') : wpAny (model X.prog X.w) A (getMethod (.ref C) m pl) Q E s := by
  obtain ⟨rest, hp⟩ := c.rc
  refine PySem.W.method_cls I.kIn r.ga (PySem.W.cls_bind I.kIn r.rd c.at_ (wpAny_call (PySem.W.sm_get (s := { s with toks := s.toks + 1 }) I.kIn hp (PySem.W.handed_on rfl ?_))))
  exact h _ (I.tok _)
theorem pe_smeth (he : PE X o ta) (r : ClX.CRead X.K C mc) (c : SMet X.K C mc m p g) (F : FnOk X.prog X.w X.K X.mg X.base CX0 k g fd ps sp) (hr : Room k X.A) (hb : Binds X.K fd ps ds) (hd : Vals dvs ds) (ha : PA X (e :: es) t)
    (hst : starEach (e :: es) X.env = (false, eval e X.env) :: starEach es X.env := by rfl) (hpl : (backTo pos (starEach es X.env)).any (·.1) = false := by rfl)
    (ht : eval (.Call (.Attribute o m apos) (e :: es) [] pos) X.env = (do
      let ov ← eval o X.env
      standAt apos.atName
      let (f, first) ← holding [ov] (getMethod ov m pl)
      callWith pos f first (backTo pos (starEach (e :: es) X.env)) (backToKw pos (keywordEach [] X.env))) := by rfl) :
    PE X (.Call (.Attribute o m apos) (e :: es) [] pos) (tSMeth C sp dvs ta t) := by
  refine ⟨fun pins s σ H Q I h => ?_⟩
  refine PySem.W.methodCall_KW (pl := pl) (thn (he.run pins s σ H _ I h) fun u s1 ⟨x, H1, I1, rx, ex, q⟩ => ?_) ht
  subst ex
  obtain rfl : u = Value.ref C := rx
  refine getsm_ok I1 r c fun s2 I2 => ?_
  refine PySem.W.callWith_K (h₀ := X.base) I.ok.mod.kin c.kp (thn (ha.run pos pins s2 σ H1 _ I2 q) fun us s3 ⟨vs, H2, I3, rv, q2⟩ => ⟨I3.kIn, ?_⟩) hst hpl
  exact run_fn F hr hb hd pass0 I3 rv q2
/-- a def run with keywords -/
theorem run_kn {n : Nat} {pins : List (Addr × Obj)} {σ : L2.St} {H : Hp} {s : Shared} {Q : VK} {us ws : List Value} {vs zs : List V} (F : FnOk X.prog X.w X.K X.mg X.base CX0 k g fd ps sp) (hr : Room k X.A) (hb : KBn X.K fd ps n ks gv gV) (I : Inv X pins σ H s)
    (r : Vals vs us) (rz : Vals zs ws) (l1 : vs.length = n) (l2 : zs.length = ks.length) (h : sp (gV vs zs) H Q E0) : wpAny (model X.prog X.w) X.A (call (.ref g) us (ks.zip ws)) (EP X pins σ Q) X.xe s := by
  refine wpAny_call (codeAny_mono (F.run X.A X.stack s H ⟨us, ks.zip ws⟩ (gv us ws) (gV vs zs) Q E0 hr I.env0 (hb.to s us ws I.kIn (r.length.symm.trans l1) (rz.length.symm.trans l2)) (hb.rel r rz) h) fun r s' hq => ?_)
  cases r with
  | error e => exact False.elim hq
  | ok fl =>
    cases fl with
    | ret u => exact I.after hq
    | next => exact False.elim hq
    | brk => exact False.elim hq
    | cont => exact False.elim hq
/-- C.m(k = v, ..), a static method -/
def tSMethK0 (C : Addr) (m : Nat) (sp : Sp) (gV : List V → List V → List V) (ta : TE) (tk : TA) : TE := fun σ H Q => ta σ H fun x H1 => x = .ref C ∧ tk σ H1 fun zs H2 => zs.length = m ∧ sp (gV [] zs) H2 Q E0
theorem pe_smethK0 (he : PE X o ta) (r : ClX.CRead X.K C mc) (c : SMet X.K C mc m p g) (F : FnOk X.prog X.w X.K X.mg X.base CX0 k g fd ps sp) (hr : Room k X.A) (hb : KBn X.K fd ps 0 ks gv gV) (hkw : PK X kws tk)
    (hall : (backToKw pos (keywordEach kws X.env)).all (·.1.isSome) = true := by rfl) (hks : (backToKw pos (keywordEach kws X.env)).filterMap (·.1) = ks := by rfl)
    (hpl : ((backTo pos (starEach [] X.env)).any (·.1) || (backToKw pos (keywordEach kws X.env)).any (·.1.isNone)) = false := by rfl)
    (ht : eval (.Call (.Attribute o m apos) [] kws pos) X.env = (do
      let ov ← eval o X.env
      standAt apos.atName
      let (f, first) ← holding [ov] (getMethod ov m pl)
      callWith pos f first (backTo pos (starEach [] X.env)) (backToKw pos (keywordEach kws X.env))) := by rfl) :
    PE X (.Call (.Attribute o m apos) [] kws pos) (tSMethK0 C ks.length sp gV ta tk) := by
  refine ⟨fun pins s σ H Q I h => ?_⟩
  refine PySem.W.methodCall_KW (pl := pl) (thn (he.run pins s σ H _ I h) fun u s1 ⟨x, H1, I1, rx, ex, q⟩ => ?_) ht
  subst ex
  obtain rfl : u = Value.ref C := rx
  refine getsm_ok I1 r c fun s2 I2 => ?_
  refine PySem.W.callWith_KW0 (h₀ := X.base) I.ok.mod.kin c.kp hall ?_ hpl
  refine thn (hkw.run pos pins s2 σ H1 _ I2 q) fun ws s3 ⟨zs, H2, I3, rz, l2, q2⟩ => ⟨I3.kIn, ?_⟩
  rw [hks]
  exact run_kn (us := []) (vs := []) F hr hb I3 .nil rz rfl l2 q2
/-- o.m(k = v, ..) of an instance -/
def tMethK0 (C : Addr) (m : Str) (n : Nat) (sp : Sp) (gV : List V → List V → List V) (ta : TE) (tk : TA) : TE := fun σ H Q => ta σ H fun x H1 => ∃ a dx fs, x = .ref a ∧ H1 a = some (.ins C dx fs) ∧ fs.lookup m = none ∧ tk σ H1 fun zs H2 => zs.length = n ∧ sp (gV [x] zs) H2 Q E0
theorem pe_methK0 (he : PE X o ta) (c : Cls X.K C) (hm : Meth X.K C m g) (F : FnOk X.prog X.w X.K X.mg X.base CX0 k g fd ps sp) (hr : Room k X.A) (hb : KBn X.K fd ps 1 ks gv gV) (hkw : PK X kws tk)
    (hall : (backToKw pos (keywordEach kws X.env)).all (·.1.isSome) = true := by rfl) (hks : (backToKw pos (keywordEach kws X.env)).filterMap (·.1) = ks := by rfl)
    (hpl : ((backTo pos (starEach [] X.env)).any (·.1) || (backToKw pos (keywordEach kws X.env)).any (·.1.isNone)) = false := by rfl)
    (ht : eval (.Call (.Attribute o m apos) [] kws pos) X.env = (do
      let ov ← eval o X.env
      standAt apos.atName
      let (f, first) ← holding [ov] (getMethod ov m pl)
      callWith pos f first (backTo pos (starEach [] X.env)) (backToKw pos (keywordEach kws X.env))) := by rfl) :
    PE X (.Call (.Attribute o m apos) [] kws pos) (tMethK0 C m ks.length sp gV ta tk) := by
  refine ⟨fun pins s σ H Q I h => ?_⟩
  refine PySem.W.methodCall_KW (pl := pl) (thn (he.run pins s σ H _ I h) fun u s1 ⟨x, H1, I1, rx, a, dx, fs, ex, ea, l, q⟩ => ?_) ht
  subst ex
  obtain rfl : u = Value.ref a := rx
  refine getmeth_ok I1 ea c hm l ?_
  refine PySem.W.callWith_KW0 (first := [.ref a]) (h₀ := X.base) I.ok.mod.kin hm.kp hall ?_ hpl
  refine thn (hkw.run pos pins s1 σ H1 _ I1 q) fun ws s3 ⟨zs, H2, I3, rz, l2, q2⟩ => ⟨I3.kIn, ?_⟩
  rw [hks]
  exact run_kn (us := [.ref a]) (vs := [.ref a]) F hr hb I3 (.cons rfl .nil) rz rfl l2 q2
end
/-- how keywords bind where a def has no defaults -/
theorem kbn_of {K : PySem.W.Frag} {x qual : Str} {st : Stmt} {f : Addr} {fd : FuncData} {ps ks : List Str} {n : Nat} (F : L2.Fun K x qual st f fd)
    (h : ∀ (kV doc pm : Value) (an : Option Addr) (cdv ct : Value) (us ws : List Value), us.length = n → ws.length = ks.length →
      bindArgs (PySem.W.fnOf x qual (defArgs st) (defBody st) (defScope st) .none kV doc pm an cdv ct) ⟨us, ks.zip ws⟩ = pure (ps.zip (us ++ ws))) : KBn K fd ps n ks (· ++ ·) (· ++ ·) := by
  obtain ⟨oc, od, kV, doc, pm, an, cdv, ct, osl, rfl, lk, hcd⟩ := F.ex
  exact ⟨fun s us ws _ l1 l2 => .of_eq (h kV doc pm an cdv ct us ws l1 l2), fun r1 r2 => r1.append r2⟩
/-- .. and where it has, but all are given: g puts them in the parameters' order -/
theorem kbn_ofD {K : PySem.W.Frag} {x qual : Str} {st : Stmt} {f : Addr} {fd : FuncData} {ps ks : List Str} {n : Nat} {dvs : List V} {g : {α : Type} → List α → List α → List α} (F : FunD K x qual (defArgs st) (defBody st) (defScope st) dvs [] f fd) (hd : dvs ≠ [])
    (hrel : ∀ {vs zs : List V} {us ws : List Value}, Vals vs us → Vals zs ws → Vals (g vs zs) (g us ws))
    (h : ∀ (T : Addr) (kV doc pm : Value) (an : Option Addr) (cdv ct : Value) (us ws its : List Value), us.length = n → ws.length = ks.length → its.length = dvs.length →
      ∃ k, bindArgs (PySem.W.fnOf x qual (defArgs st) (defBody st) (defScope st) (.ref T) kV doc pm an cdv ct) ⟨us, ks.zip ws⟩ = seqItems? (.ref T) >>= k ∧ k (some its.toArray) = pure (ps.zip (g us ws))) : KBn K fd ps n ks g g := by
  obtain ⟨oc, od, dV, kV, doc, pm, an, cdv, ct, osl, rfl, lk, hcd, hD, hK⟩ := F.ex
  rcases hD with ⟨e, _⟩ | ⟨_, T, o, its, m, rfl, lT, oT, rT⟩
  · exact absurd e hd
  · refine ⟨fun s us ws X l1 l2 => ?_, fun r1 r2 => hrel r1 r2⟩
    obtain ⟨k, e1, e2⟩ := h T kV doc pm an cdv ct us ws its l1 l2 rT.length.symm
    refine BindsTo.of_looks fun M => ?_
    rw [e1]
    exact looks_items X lT oT (.of_pure e2)
end Ly

namespace Ly
open PySem PySem.Spec PyProof.Rows L2
/-! ### in place, where the class has no method for it -/
section
open PySem.W
variable {X : Cx} {C f : Addr} {fd : FuncData} {ps : List Str} {sp : Sp} {k : Nat} {op : Operator}
theorem fills_in {K : PySem.W.Frag} {M : Model} {h : Heap} {C : Addr} {nm : String} {add : Bool} {cd : ClassData} (KX : K.In h) (hcd : clsIn K C = some cd) (hm : cd.mro = [.ref C, .type "object"]) (h1 : findIn K (.ref C) (dunderI nm) = some none) (h2 : findIn K (.type "object") (dunderI nm) = some none) :
    Looks M h (fillsInplaceSlot (.ref C) nm add) false := by
  intro A Q E s k q
  have Lm : Looks M h (mroOf (.ref C)) cd.mro := (looks_clsIn KX hcd).andThen (f := fun cd => pure cd.mro) .now
  have Lm' := Lm.keeps k
  obtain ⟨hh, g, d, tt, os⟩ := s
  have KX' : K.In hh := KX.keeps k
  have L1 : Looks M hh (typeLookup (.ref C) (dunderI nm)) none := looks_findIn KX' h1
  have L2 : Looks M hh (typeLookup (.type "object") (dunderI nm)) none := looks_findIn KX' h2
  unfold fillsInplaceSlot
  refine wpAny_bind (Lm'.at ?_)
  rw [hm, List.anyM_cons]
  repeat lk
  exact q
/-- the class's mro is itself and object -/
def mro2 (K : PySem.W.Frag) (C : Addr) : Bool := (clsIn K C).any fun cd => cd.mro == [.ref C, .type "object"]
theorem mro2_of {K : PySem.W.Frag} {C : Addr} (h : mro2 K C = true) : ∃ cd, clsIn K C = some cd ∧ cd.mro = [.ref C, .type "object"] := by
  obtain ⟨cd, h1, h2⟩ := any_some h
  exact ⟨cd, h1, by simpa using h2⟩
theorem bin1_own2 {pins : List (Addr × Obj)} {σ : L2.St} {H : Hp} {s : Shared} {Q : VK} {nm : String} {a b dx dy : Addr} {fs gs : List (Str × V)} (F : FnOk X.prog X.w X.K X.mg X.base CX0 k f fd ps sp) (hr : Room k X.A) (hb : Binds X.K fd ps []) (hs : findIn X.K (.ref C) (PySem.dunder nm) = some (some (.ref f)))
    (hf : isFn X.K (.ref f) = true) (hc : selfFirst X.K C = true) (I : Inv X pins σ H s) (ha : H a = some (.ins C dx fs)) (hb' : H b = some (.ins C dy gs)) (q : sp [.ref a, .ref b] H Q E0) :
    wpAny (model X.prog X.w) X.A (binaryOp1 nm (.ref a) (.ref b)) (fun r s' => ∃ v, r = some v ∧ EP X pins σ Q v s') X.xe s := by
  obtain ⟨mA, J, _⟩ := ins_get I.hok ha
  obtain ⟨mB, J', _⟩ := ins_get I.hok hb'
  obtain ⟨od, J, _⟩ := J.look
  obtain ⟨od', J', _⟩ := J'.look
  have KX := I.kIn
  obtain ⟨cd, rest, hcd, hm⟩ := ksp_first hc
  have one := ksp_try (E := X.xe) (M := model X.prog X.w) KX J hs hf (cmpback (run_fn (us := [.ref a, .ref b]) (vs := [.ref a, .ref b]) F hr hb .nil pass0 I (.cons rfl (.cons rfl .nil)) q))
  obtain ⟨hh, gg, d, tt, os⟩ := s
  have L1 : Looks (model X.prog X.w) hh (typeOf (.ref a)) (.ref C) := J.type
  have L2 : Looks (model X.prog X.w) hh (typeOf (.ref b)) (.ref C) := J'.type
  have L3 : Looks (model X.prog X.w) hh (fillsNumberSlot (.ref C) nm) true := fills_K KX hcd hm hs
  unfold binaryOp1
  refine wpAny_bind (L1.at ?_)
  refine wpAny_bind (L2.at ?_)
  refine wpAny_bind (L3.at ?_)
  simp only [beq_self_eq_true, if_true]
  ksp_lk
  refine wpAny_mono one (fun r s' hr' => ?_) fun _ _ e => e
  obtain ⟨v, rfl, hq⟩ := hr'
  ksp_lk
  exact ⟨v, rfl, hq⟩
theorem bin1_ownI {fo ro rc : Option Value} {pins : List (Addr × Obj)} {σ : L2.St} {H : Hp} {s : Shared} {Q : VK} {nm : String} {a dx : Addr} {i : Int} {t : Tok} {fs : List (Str × V)} (F : FnOk X.prog X.w X.K X.mg X.base CX0 k f fd ps sp) (hr : Room k X.A) (hb : Binds X.K fd ps [])
    (hs : findIn X.K (.ref C) (PySem.dunder nm) = some (some (.ref f))) (hf : isFn X.K (.ref f) = true) (hc : selfFirst X.K C = true) (hrc : findIn X.K (.ref C) (dunderR nm) = some rc) (hp : rc = none ∨ ∃ g : Addr, rc = some (.ref g))
    (h1 : findIn X.K (.type "int") (PySem.dunder nm) = some fo) (h2 : findIn X.K (.type "int") (dunderR nm) = some ro) (h12 : ((fo.isSome && !isSeqSlot fo) || (ro.isSome && !isSeqSlot ro)) = true) (hsub : subIn X.K (.type "int") (.ref C) = some false)
    (I : Inv X pins σ H s) (ha : H a = some (.ins C dx fs)) (q : sp [.ref a, .int i] H Q E0) :
    wpAny (model X.prog X.w) X.A (binaryOp1 nm (.ref a) (.int i t)) (fun r s' => ∃ v, r = some v ∧ EP X pins σ Q v s') X.xe s := by
  obtain ⟨mA, J, _⟩ := ins_get I.hok ha
  obtain ⟨od, J, _⟩ := J.look
  have KX := I.kIn
  obtain ⟨cd, rest, hcd, hm⟩ := ksp_first hc
  have one := ksp_try (E := X.xe) (M := model X.prog X.w) KX J hs hf (cmpback (run_fn (us := [.ref a, .int i t]) (vs := [.ref a, .int i]) F hr hb .nil pass0 I (.cons rfl (.cons ⟨t, rfl⟩ .nil)) q))
  obtain ⟨hh, gg, d, tt, os⟩ := s
  have L1 : Looks (model X.prog X.w) hh (typeOf (.ref a)) (.ref C) := J.type
  have L2 : Looks (model X.prog X.w) hh (typeOf (.int i t)) (.type "int") := Looks.of_pure rfl
  have L3 : Looks (model X.prog X.w) hh (fillsNumberSlot (.ref C) nm) true := fills_K KX hcd hm hs
  have L4 : Looks (model X.prog X.w) hh (fillsNumberSlot (.type "int") nm) true := by
    have z := ksp_fillsT (M := model X.prog X.w) KX h1 h2
    rw [h12] at z
    exact z
  have L5 : Looks (model X.prog X.w) hh (isSubtype (.type "int") (.ref C)) false := looks_subIn KX hsub
  have L6 : Looks (model X.prog X.w) hh (numberSlotInPython (.ref C) nm) true := ksp_inPy KX hs hrc hp
  have L7 : Looks (model X.prog X.w) hh (numberSlotInPython (.type "int") nm) false := Looks.of_pure rfl
  have L8 : Looks (model X.prog X.w) hh (typeLookup (.type "int") (dunderR nm)) ro := looks_findIn KX h2
  have hne : (Value.ref C == Value.type "int") = false := Bool.eq_false_iff.mpr fun q => by cases beq_iff_eq.mp q
  unfold binaryOp1
  refine wpAny_bind (L1.at ?_)
  refine wpAny_bind (L2.at ?_)
  refine wpAny_bind (L3.at ?_)
  simp only [hne, Bool.false_eq_true, if_false]
  ksp_lk
  refine wpAny_mono one (fun r s' hr' => ?_) fun _ _ e => e
  obtain ⟨v, rfl, hq⟩ := hr'
  ksp_lk
  exact ⟨v, rfl, hq⟩
theorem in_of {pins : List (Addr × Obj)} {σ : L2.St} {H : Hp} {s : Shared} {Q : VK} {a dx : Addr} {fs : List (Str × V)} {u : Value} (I : Inv X pins σ H s) (ha : H a = some (.ins C dx fs)) (h2 : mro2 X.K C = true) (hi : findIn X.K (.ref C) (dunderI op.info.2) = some none) (ho : findIn X.K (.type "object") (dunderI op.info.2) = some none)
    (h : wpAny (model X.prog X.w) X.A (binaryOp1 op.info.2 (.ref a) u) (fun r s' => ∃ v, r = some v ∧ EP X pins σ Q v s') X.xe s) : wpAny (model X.prog X.w) X.A (inplaceOp op (.ref a) u) (EP X pins σ Q) X.xe s := by
  obtain ⟨mA, J, _⟩ := ins_get I.hok ha
  obtain ⟨od, J, _⟩ := J.look
  obtain ⟨cd, hcd, hm⟩ := mro2_of h2
  unfold inplaceOp
  refine wpAny_holding ?_
  refine wpAny_bind (J.type.here ?_)
  refine wpAny_bind ((fills_in I.kIn hcd hm hi ho).here ?_)
  rw [if_neg Bool.false_ne_true]
  refine wpAny_bind (wpAny_mono h (fun r s' z => ?_) fun _ _ e => e)
  obtain ⟨v, rfl, q⟩ := z
  exact wpAny_pure q
end
end Ly

namespace Ly
open PySem PySem.Spec PyProof.Rows L2
/-! ### packages -/
structure GM (K : PySem.W.Frag) (C : Addr) (m qual : Str) (st : Stmt) : Prop where
  ex : ∃ (f : Addr) (fd : FuncData), L2.Fun K m qual st f fd ∧ Meth K C m f
structure GS (K : PySem.W.Frag) (C : Addr) (m qual : Str) (st : Stmt) : Prop where
  ex : ∃ (p g : Addr) (fd : FuncData) (mc : Value), L2.Fun K m qual st g fd ∧ SMet K C mc m p g ∧ ClX.CRead K C mc
structure GP (K : PySem.W.Frag) (C : Addr) (m qual : Str) (st : Stmt) : Prop where
  ex : ∃ (p g : Addr) (fd : FuncData), L2.Fun K m qual st g fd ∧ PropOf K C m p g
structure GI (K : PySem.W.Frag) (C : Addr) (qual : Str) (st : Stmt) (dvs : List V) : Prop where
  ex : ∃ (f : Addr) (fd : FuncData), FunD K "__init__" qual (defArgs st) (defBody st) (defScope st) dvs [] f fd ∧ Mk K C f
structure OwnC (K : PySem.W.Frag) (mg : Str → Option Value) (x : Str) (C : Addr) : Prop where
  mg : mg x = some (.ref C)
  cls : Cls K C
  kp : PySem.W.keepIn K (.ref C) = true
  sf : PySem.W.selfFirst K C = true
  m2 : mro2 K C = true
  sI : PySem.W.subIn K (.type "int") (.ref C) = some false
  sI' : PySem.W.subIn K (.ref C) (.type "int") = some false
  sO : PySem.W.subIn K (.ref C) (.type "object") = some true
  nI : PySem.W.notFirst K C (.type "int") = true
  kO : PySem.W.kitOne K (.ref C) (.ref C) = some true
  kI : PySem.W.kitOne K (.type "int") (.ref C) = some false
  cl : PySem.W.findIn K (.ref C) "__class__" = some (some (.builtin "object.__class__"))
  mo : PySem.W.mroIn K C (.type "object") = some true
structure Mt (W : Wd) (k : Nat) (C : Addr) (m : Str) (sp : Sp) : Prop where
  ex : ∃ (f : Addr) (fd : FuncData) (ps : List Str), Meth W.K C m f ∧ FnOk W.P W.w W.K W.mg W.base CX0 k f fd ps sp ∧ Binds W.K fd ps []
structure MtK (W : Wd) (k : Nat) (C : Addr) (m : Str) (n : Nat) (ks : List Str) (sp : Sp) : Prop where
  ex : ∃ (f : Addr) (fd : FuncData) (ps : List Str), Meth W.K C m f ∧ FnOk W.P W.w W.K W.mg W.base CX0 k f fd ps sp ∧ KBn W.K fd ps n ks (· ++ ·) (· ++ ·)
structure Sm (W : Wd) (k : Nat) (C : Addr) (m : Str) (sp : Sp) : Prop where
  ex : ∃ (p g : Addr) (fd : FuncData) (ps : List Str) (mc : Value), ClX.CRead W.K C mc ∧ SMet W.K C mc m p g ∧ FnOk W.P W.w W.K W.mg W.base CX0 k g fd ps sp ∧ Binds W.K fd ps []
structure SmK (W : Wd) (k : Nat) (C : Addr) (m : Str) (ks : List Str) (sp : Sp) : Prop where
  ex : ∃ (p g : Addr) (fd : FuncData) (ps : List Str) (mc : Value), ClX.CRead W.K C mc ∧ SMet W.K C mc m p g ∧ FnOk W.P W.w W.K W.mg W.base CX0 k g fd ps sp ∧ KBn W.K fd ps 0 ks (· ++ ·) (· ++ ·)
structure Pp (W : Wd) (k : Nat) (C : Addr) (m : Str) (sp : Sp) : Prop where
  ex : ∃ (p g : Addr) (fd : FuncData) (ps : List Str), PropOf W.K C m p g ∧ FnOk W.P W.w W.K W.mg W.base CX0 k g fd ps sp ∧ Binds W.K fd ps []
/-- a class whose instances are made by position, dvs the defaults that fill up -/
structure Mak (W : Wd) (k : Nat) (x : Str) (C : Addr) (sp : Sp) (dvs : List V) : Prop where
  ex : ∃ (f : Addr) (fd : FuncData) (ps : List Str) (ds : List Value), Mk W.K C f ∧ FnOk W.P W.w W.K W.mg W.base CX0 k f fd ps sp ∧ W.mg x = some (.ref C) ∧ Binds W.K fd ps ds ∧ Vals dvs ds

/-- a body as cl_of and its kin want it -/
def BodyOk (W : Wd) (k : Nat) (N : List Str) (qual : Str) (st : Stmt) (sp : Sp) : Prop :=
  ∀ (f : Addr) (cdv : Value) (A : Around) (outer : List Env) (s : Shared) (H : Hp) (vs : List V) (Q : VK) (E : XK), Room k (A.deeper (envOfC qual (defScope st) s.heap.objs.size f cdv)) → sp vs H Q E →
      ∃ t, PSs (cxOf CX0 W.P W.w W.K W.mg W.base N qual (defScope st) f cdv A outer s H E).nox (defBody st) t ∧ t { nx := fun _ H' => Q .non H', rt := Q } (start N vs) H
def BindOk (m qual : Str) (st : Stmt) (ps : List Str) : Prop :=
  ∀ (kV doc pm : Value) (an : Option Addr) (cdv ct : Value) (us : List Value), us.length = ps.length → bindArgs (PySem.W.fnOf m qual (defArgs st) (defBody st) (defScope st) .none kV doc pm an cdv ct) ⟨us, []⟩ = pure (ps.zip us)
def KBindOk (m qual : Str) (st : Stmt) (ps : List Str) (n : Nat) (ks : List Str) : Prop :=
  ∀ (kV doc pm : Value) (an : Option Addr) (cdv ct : Value) (us ws : List Value), us.length = n → ws.length = ks.length → bindArgs (PySem.W.fnOf m qual (defArgs st) (defBody st) (defScope st) .none kV doc pm an cdv ct) ⟨us, ks.zip ws⟩ = pure (ps.zip (us ++ ws))
section
variable {W : Wd} {k : Nat} {C : Addr} {m qual : Str} {st : Stmt} {N ps ks : List Str} {n : Nat} {sp : Sp}
theorem cl_of' {x : Str} (g : GF W.K W.mg x st) (S : FnScope N ps (defScope st)) (hb : BindOk x x st ps) (len : ∀ vs H Q E, sp vs H Q E → vs.length = ps.length) (hbody : BodyOk W k N x st sp) : Cl W (k + 1) x sp := cl_of g S hb len hbody
theorem mt_of (g : GM W.K C m qual st) (S : FnScope N ps (defScope st)) (hb : BindOk m qual st ps) (len : ∀ vs H Q E, sp vs H Q E → vs.length = ps.length) (hbody : BodyOk W k N qual st sp) : Mt W (k + 1) C m sp := by
  obtain ⟨f, fd, F, hm⟩ := g.ex
  exact ⟨f, fd, ps, hm, F.ok S len (fun cdv A outer s H vs Q E => hbody f cdv A outer s H vs Q E), F.binds hb⟩
theorem mtk_of (g : GM W.K C m qual st) (S : FnScope N ps (defScope st)) (hb : KBindOk m qual st ps n ks) (len : ∀ vs H Q E, sp vs H Q E → vs.length = ps.length) (hbody : BodyOk W k N qual st sp) : MtK W (k + 1) C m n ks sp := by
  obtain ⟨f, fd, F, hm⟩ := g.ex
  exact ⟨f, fd, ps, hm, F.ok S len (fun cdv A outer s H vs Q E => hbody f cdv A outer s H vs Q E), kbn_of F hb⟩
theorem sm_of (g : GS W.K C m qual st) (S : FnScope N ps (defScope st)) (hb : BindOk m qual st ps) (len : ∀ vs H Q E, sp vs H Q E → vs.length = ps.length) (hbody : BodyOk W k N qual st sp) : Sm W (k + 1) C m sp := by
  obtain ⟨p, f, fd, mc, F, hm, hr⟩ := g.ex
  exact ⟨p, f, fd, ps, mc, hr, hm, F.ok S len (fun cdv A outer s H vs Q E => hbody f cdv A outer s H vs Q E), F.binds hb⟩
theorem smk_of (g : GS W.K C m qual st) (S : FnScope N ps (defScope st)) (hb : KBindOk m qual st ps 0 ks) (len : ∀ vs H Q E, sp vs H Q E → vs.length = ps.length) (hbody : BodyOk W k N qual st sp) : SmK W (k + 1) C m ks sp := by
  obtain ⟨p, f, fd, mc, F, hm, hr⟩ := g.ex
  exact ⟨p, f, fd, ps, mc, hr, hm, F.ok S len (fun cdv A outer s H vs Q E => hbody f cdv A outer s H vs Q E), kbn_of F hb⟩
theorem pp_of (g : GP W.K C m qual st) (S : FnScope N ps (defScope st)) (hb : BindOk m qual st ps) (len : ∀ vs H Q E, sp vs H Q E → vs.length = ps.length) (hbody : BodyOk W k N qual st sp) : Pp W (k + 1) C m sp := by
  obtain ⟨p, f, fd, F, hm⟩ := g.ex
  exact ⟨p, f, fd, ps, hm, F.ok S len (fun cdv A outer s H vs Q E => hbody f cdv A outer s H vs Q E), F.binds hb⟩
end
section
variable {X : Cx} {k j : Nat} {C : Addr} {x m : Str} {sp : Sp} {p pos apos : Pos} {o e : Expr} {es : List Expr} {kws : List Keyword} {ta : TE} {t tk : TA} {dvs : List V} {pl : Sem Bool} {ks : List Str}
theorem pe_mt (c : Cls X.K C) (h : Mt ⟨X.prog, X.w, X.K, X.mg, X.base⟩ k C m sp) (hr : Room j X.A) (hk : k ≤ j) (he : PE X o ta) (ha : PA X (e :: es) t)
    (hst : starEach (e :: es) X.env = (false, eval e X.env) :: starEach es X.env := by rfl) (hpl : (backTo pos (starEach es X.env)).any (·.1) = false := by rfl)
    (ht : eval (.Call (.Attribute o m apos) (e :: es) [] pos) X.env = (do
      let ov ← eval o X.env
      standAt apos.atName
      let (f, first) ← holding [ov] (getMethod ov m pl)
      callWith pos f first (backTo pos (starEach (e :: es) X.env)) (backToKw pos (keywordEach [] X.env))) := by rfl) :
    PE X (.Call (.Attribute o m apos) (e :: es) [] pos) (tMeth C m sp [] E0 ta t) := by
  obtain ⟨f, fd, ps, hm, F, b⟩ := h.ex
  exact pe_meth (pl := pl) he c hm F (hr.mono hk) b .nil pass0 ha hst hpl ht
theorem pe_mt0 (c : Cls X.K C) (h : Mt ⟨X.prog, X.w, X.K, X.mg, X.base⟩ k C m sp) (hr : Room j X.A) (hk : k ≤ j) (he : PE X o ta)
    (ht : eval (.Call (.Attribute o m apos) [] [] pos) X.env = (do
      let ov ← eval o X.env
      standAt apos.atName
      let (f, first) ← holding [ov] (getMethod ov m pl)
      callWith pos f first (backTo pos (starEach [] X.env)) (backToKw pos (keywordEach [] X.env))) := by rfl) :
    PE X (.Call (.Attribute o m apos) [] [] pos) (tMeth C m sp [] E0 ta tNil) := by
  obtain ⟨f, fd, ps, hm, F, b⟩ := h.ex
  exact pe_meth0 (pl := pl) he c hm F (hr.mono hk) b .nil pass0 ht
theorem pe_mtk (c : Cls X.K C) (h : MtK ⟨X.prog, X.w, X.K, X.mg, X.base⟩ k C m 1 ks sp) (hr : Room j X.A) (hk : k ≤ j) (he : PE X o ta) (hkw : PK X kws tk)
    (hall : (backToKw pos (keywordEach kws X.env)).all (·.1.isSome) = true := by rfl) (hks : (backToKw pos (keywordEach kws X.env)).filterMap (·.1) = ks := by rfl)
    (hpl : ((backTo pos (starEach [] X.env)).any (·.1) || (backToKw pos (keywordEach kws X.env)).any (·.1.isNone)) = false := by rfl)
    (ht : eval (.Call (.Attribute o m apos) [] kws pos) X.env = (do
      let ov ← eval o X.env
      standAt apos.atName
      let (f, first) ← holding [ov] (getMethod ov m pl)
      callWith pos f first (backTo pos (starEach [] X.env)) (backToKw pos (keywordEach kws X.env))) := by rfl) :
    PE X (.Call (.Attribute o m apos) [] kws pos) (tMethK0 C m ks.length sp (· ++ ·) ta tk) := by
  obtain ⟨f, fd, ps, hm, F, b⟩ := h.ex
  exact pe_methK0 (pl := pl) he c hm F (hr.mono hk) b hkw hall hks hpl ht
theorem pe_sm (h : Sm ⟨X.prog, X.w, X.K, X.mg, X.base⟩ k C m sp) (hr : Room j X.A) (hk : k ≤ j) (he : PE X o ta) (ha : PA X (e :: es) t)
    (hst : starEach (e :: es) X.env = (false, eval e X.env) :: starEach es X.env := by rfl) (hpl : (backTo pos (starEach es X.env)).any (·.1) = false := by rfl)
    (ht : eval (.Call (.Attribute o m apos) (e :: es) [] pos) X.env = (do
      let ov ← eval o X.env
      standAt apos.atName
      let (f, first) ← holding [ov] (getMethod ov m pl)
      callWith pos f first (backTo pos (starEach (e :: es) X.env)) (backToKw pos (keywordEach [] X.env))) := by rfl) :
    PE X (.Call (.Attribute o m apos) (e :: es) [] pos) (tSMeth C sp [] ta t) := by
  obtain ⟨p, g, fd, ps, mc, r, c, F, b⟩ := h.ex
  exact pe_smeth (pl := pl) he r c F (hr.mono hk) b .nil ha hst hpl ht
theorem pe_smk (h : SmK ⟨X.prog, X.w, X.K, X.mg, X.base⟩ k C m ks sp) (hr : Room j X.A) (hk : k ≤ j) (he : PE X o ta) (hkw : PK X kws tk)
    (hall : (backToKw pos (keywordEach kws X.env)).all (·.1.isSome) = true := by rfl) (hks : (backToKw pos (keywordEach kws X.env)).filterMap (·.1) = ks := by rfl)
    (hpl : ((backTo pos (starEach [] X.env)).any (·.1) || (backToKw pos (keywordEach kws X.env)).any (·.1.isNone)) = false := by rfl)
    (ht : eval (.Call (.Attribute o m apos) [] kws pos) X.env = (do
      let ov ← eval o X.env
      standAt apos.atName
      let (f, first) ← holding [ov] (getMethod ov m pl)
      callWith pos f first (backTo pos (starEach [] X.env)) (backToKw pos (keywordEach kws X.env))) := by rfl) :
    PE X (.Call (.Attribute o m apos) [] kws pos) (tSMethK0 C ks.length sp (· ++ ·) ta tk) := by
  obtain ⟨p, g, fd, ps, mc, r, c, F, b⟩ := h.ex
  exact pe_smethK0 (pl := pl) he r c F (hr.mono hk) b hkw hall hks hpl ht
theorem pe_pp (c : Cls X.K C) (h : Pp ⟨X.prog, X.w, X.K, X.mg, X.base⟩ k C m sp) (hr : Room j X.A) (hk : k + 1 ≤ j) (he : PE X e ta) (hab : attributeBase e m X.env (eval e X.env) = eval e X.env) : PE X (.Attribute e m pos) (tProp C sp [] E0 ta) := by
  obtain ⟨p, g, fd, ps, hp, F, b⟩ := h.ex
  exact pe_prop he c hp F (hr.mono hk) b .nil pass0 hab
theorem pe_mak (h : Mak ⟨X.prog, X.w, X.K, X.mg, X.base⟩ k x C sp dvs) (hr : Room j X.A) (hk : k + 1 ≤ j) (hg : Gl X x) (ha : PA X (e :: es) t)
    (hdb : (x == ("__debug__" : Str)) = false := by decide) (he : starEach (e :: es) X.env = (false, eval e X.env) :: starEach es X.env := by rfl) (hpl : (backTo pos (starEach es X.env)).any (·.1) = false := by rfl) :
    PE X (.Call (.Name x p) (e :: es) [] pos) (tMake C sp dvs E0 t) := by
  obtain ⟨f, fd, ps, ds, M, F, hm, b, d⟩ := h.ex
  exact pe_make M F (hr.mono hk) hg hm b d pass0 ha hdb he hpl
/-- a class's or another constant's name -/
theorem pe_gn {v : V} {u : Value} (hg : Gl X x) (hm : X.mg x = some u) (r : RelV v u) (hd : (x == ("__debug__" : Str)) = false := by decide) : PE X (.Name x pos) (tC v) := pe_glob hg hm r hd
end
end Ly

namespace Ly
open PySem PySem.Spec PyProof.Rows L2
/-! ### what the top has written -/
section
variable {K : PySem.W.Frag} {h : Heap} {mg : Str → Option Value} {f g p C : Addr} {oc kV doc pm cdv ct dV : Value} {od an : Option Addr} {osl : Array (Option Value)} {x m qual : Str} {st : Stmt}
theorem gf_mk (X : K.In h) (G : h.Ns mainGlobals mg) (a : PySem.W.nsIn K mainGlobals x = some (some (.ref f)))
    (l : K.lookup f = some ⟨oc, od, .func (PySem.W.fnOf x x (defArgs st) (defBody st) (defScope st) .none kV doc pm an cdv ct), osl⟩) (c : PySem.W.codeIn K cdv x = true) (k : PySem.W.keepIn K (.ref f) = true) : GF K mg x st :=
  ⟨f, _, fun_mk l c k, PySem.W.mg_of X G a⟩
theorem gm_mk (a : PySem.W.findIn K (.ref C) m = some (some (.ref f))) (i : PySem.W.isFn K (.ref f) = true)
    (l : K.lookup f = some ⟨oc, od, .func (PySem.W.fnOf m qual (defArgs st) (defBody st) (defScope st) .none kV doc pm an cdv ct), osl⟩) (c : PySem.W.codeIn K cdv qual = true) (k : PySem.W.keepIn K (.ref f) = true) : GM K C m qual st :=
  ⟨f, _, fun_mk l c k, ⟨a, i, k⟩⟩
theorem gp_mk (a : PySem.W.findIn K (.ref C) m = some (some (.ref p))) (b : PySem.W.specialIn K (.ref p) "__get__" = some (some (.builtin "property.__get__"))) (t : PySem.W.takesIn K (.ref p) = some true)
    {rest : List Value} (r : PySem.W.recIn K p "property" = some (.ref f :: rest))
    (l : K.lookup f = some ⟨oc, od, .func (PySem.W.fnOf m qual (defArgs st) (defBody st) (defScope st) .none kV doc pm an cdv ct), osl⟩) (c : PySem.W.codeIn K cdv qual = true) (k : PySem.W.keepIn K (.ref f) = true) : GP K C m qual st :=
  ⟨p, f, _, fun_mk l c k, ⟨a, b, t, rest, r⟩⟩
theorem gs_mk {mc : Value} (a : PySem.W.findCls K (.ref C) mc m = some (.get (.builtin "staticmethod.__get__") (.ref p) .none (.ref C))) {rest : List Value} (r : PySem.W.recIn K p "staticmethod" = some (.ref f :: rest)) (rd : PySem.W.readsIn K C mc = true)
    (ga : PySem.W.specialIn K (.ref C) "__getattribute__" = some (some (.builtin "type.__getattribute__")))
    (l : K.lookup f = some ⟨oc, od, .func (PySem.W.fnOf m qual (defArgs st) (defBody st) (defScope st) .none kV doc pm an cdv ct), osl⟩) (c : PySem.W.codeIn K cdv qual = true) (k : PySem.W.keepIn K (.ref f) = true) : GS K C m qual st :=
  ⟨p, f, _, mc, fun_mk l c k, ⟨a, ⟨rest, r⟩, k⟩, ⟨rd, ga⟩⟩
/-- an __init__ with one default, an int -/
theorem gi_mk1 {T : Addr} {o : Obj} {i : Int} {t : Tok} {n : Nat} (mk : PySem.W.makesIn K C = true) (a : PySem.W.findIn K (.ref C) "__init__" = some (some (.ref f))) (i1 : PySem.W.isFn K (.ref f) = true) (kc : PySem.W.keepIn K (.ref C) = true)
    (l : K.lookup f = some ⟨oc, od, .func (PySem.W.fnOf "__init__" qual (defArgs st) (defBody st) (defScope st) (.ref T) kV doc pm an cdv ct), osl⟩) (lT : K.lookup T = some o) (oT : o.data = .seq [Value.int i t].toArray n) (c : PySem.W.codeIn K cdv qual = true) (k : PySem.W.keepIn K (.ref f) = true) : GI K C qual st [.int i] :=
  ⟨f, _, ⟨⟨oc, od, .ref T, kV, doc, pm, an, cdv, ct, osl, rfl, l, c, .inr ⟨List.cons_ne_nil _ _, T, o, _, n, rfl, lT, oT, .cons ⟨t, rfl⟩ .nil⟩, .inl rfl⟩, k⟩, ⟨mk, a, i1, kc⟩⟩
theorem m2_mk {cd : ClassData} (h : PySem.W.clsIn K C = some cd) (e : (cd.mro == [.ref C, .type "object"]) = true) : mro2 K C = true := by
  unfold mro2
  rw [h]
  exact e
theorem kO_mk : PySem.W.kitOne K (.ref C) (.ref C) = some true := by
  unfold PySem.W.kitOne
  rw [if_pos]
  exact beq_self_eq_true _
theorem kI_mk {cd : ClassData} (h : PySem.W.clsIn K C = some cd) (t : PySem.W.typeIn K (.ref C) = some (.type "type")) (s : PySem.W.subIn K (.type "int") (.ref C) = some false) : PySem.W.kitOne K (.type "int") (.ref C) = some false := by
  unfold PySem.W.kitOne
  rw [if_neg (by intro z; cases eq_of_beq z)]
  unfold PySem.W.kitCls
  simp only
  rw [h, t, s]
  rfl
theorem noattr_mk (h : PySem.W.findIn K (.ref C) x = some none) : NoAttr K C x := h
end
end Ly

namespace Ly
/-! ### fractions as pairs -/
def G (t b : Int) : Int := (Int.gcd t b : Int)
/-- top and bottom in lowest terms, the bottom above 0 -/
def Nu (t b : Int) : Int := if 0 < b then t / G t b else (-t) / G t b
def De (t b : Int) : Int := if 0 < b then b / G t b else (-b) / G t b
structure Lo (t b : Int) : Prop where
  pos : 0 < b
  one : Int.gcd t b = 1
theorem G_pos {t b : Int} (h : b ≠ 0) : 0 < G t b := by
  unfold G
  have := Int.gcd_pos_of_ne_zero_right t h
  omega
theorem G_dl (t b : Int) : G t b ∣ t := Int.gcd_dvd_left ..
theorem G_dr (t b : Int) : G t b ∣ b := Int.gcd_dvd_right ..
theorem fdiv_exact {x g : Int} (hg : 0 < g) (h : g ∣ x) : x.fdiv g = x / g := Int.fdiv_eq_ediv_of_nonneg x (by omega)
theorem fdiv_exact_neg {x g : Int} (hg : 0 < g) (h : g ∣ x) : x.fdiv (-g) = (-x) / g := by
  obtain ⟨q, rfl⟩ := h
  have e1 : (g * q).fdiv (-g) = -q := by
    rw [show g * q = (-g) * (-q) by rw [Int.neg_mul_neg]]
    exact Int.mul_fdiv_cancel_left (-q) (by omega)
  rw [e1, show -(g * q) = g * (-q) by rw [Int.mul_neg]]
  exact (Int.mul_ediv_cancel_left (-q) (by omega)).symm
/-- what Ratio's constructor works out -/
theorem nu_of {t b : Int} (h : b ≠ 0) : t.fdiv (if 0 < b then G t b else -G t b) = Nu t b := by
  unfold Nu
  split
  · exact fdiv_exact (G_pos h) (G_dl t b)
  · exact fdiv_exact_neg (G_pos h) (G_dl t b)
theorem de_of {t b : Int} (h : b ≠ 0) : b.fdiv (if 0 < b then G t b else -G t b) = De t b := by
  unfold De
  split
  · exact fdiv_exact (G_pos h) (G_dr t b)
  · exact fdiv_exact_neg (G_pos h) (G_dr t b)
theorem Lo.nu {t b : Int} (l : Lo t b) : Nu t b = t := by
  unfold Nu G
  rw [if_pos l.pos, l.one]
  exact Int.ediv_one t
theorem Lo.de {t b : Int} (l : Lo t b) : De t b = b := by
  unfold De G
  rw [if_pos l.pos, l.one]
  exact Int.ediv_one b
theorem lo_int (i : Int) : Lo i 1 := ⟨by decide, by simp⟩
theorem pos_of_mul {g q : Int} (hg : 0 < g) (h : 0 < g * q) : 0 < q := by
  rcases Int.lt_or_le 0 q with k | k
  · exact k
  · have z := Int.mul_le_mul_of_nonneg_left k (Int.le_of_lt hg)
    rw [Int.mul_zero] at z
    omega
theorem lo_nu {t b : Int} (h : b ≠ 0) : Lo (Nu t b) (De t b) := by
  have hg := G_pos (t := t) h
  obtain ⟨p, hp⟩ := G_dl t b
  obtain ⟨q, hq⟩ := G_dr t b
  have gp : ∀ c : Int, G t b * c / G t b = c := fun c => Int.mul_ediv_cancel_left c (by omega)
  have hc : Int.gcd p q = 1 := by
    have e : Int.gcd (G t b * p) (G t b * q) = (G t b).natAbs * Int.gcd p q := Int.gcd_mul_left ..
    rw [← hp, ← hq] at e
    have e2 : (G t b).natAbs = Int.gcd t b := by unfold G; simp
    rw [e2] at e
    have hpos : 0 < Int.gcd t b := Int.gcd_pos_of_ne_zero_right t h
    exact Nat.eq_of_mul_eq_mul_left hpos (by omega)
  unfold Nu De
  by_cases hb : 0 < b
  · rw [if_pos hb, if_pos hb]
    have e1 : t / G t b = p := by
      have z := gp p
      rw [← hp] at z
      exact z
    have e2 : b / G t b = q := by
      have z := gp q
      rw [← hq] at z
      exact z
    rw [e1, e2]
    refine ⟨?_, hc⟩
    have : 0 < G t b * q := by rw [← hq]; exact hb
    exact pos_of_mul hg this
  · rw [if_neg hb, if_neg hb]
    have e1 : -t / G t b = -p := by
      have z := gp (-p)
      rw [Int.mul_neg, ← hp] at z
      exact z
    have e2 : -b / G t b = -q := by
      have z := gp (-q)
      rw [Int.mul_neg, ← hq] at z
      exact z
    rw [e1, e2]
    refine ⟨?_, by rw [Int.gcd_neg, Int.neg_gcd]; exact hc⟩
    have : 0 < G t b * (-q) := by rw [Int.mul_neg, ← hq]; omega
    exact pos_of_mul hg this
theorem nu_le (t b : Int) (h : b ≠ 0) : (Nu t b).natAbs ≤ t.natAbs := by
  have hg := G_pos (t := t) h
  unfold Nu
  split
  · exact Int.natAbs_ediv_le_natAbs ..
  · have := Int.natAbs_ediv_le_natAbs (-t) (G t b)
    omega
theorem de_le (t b : Int) (h : b ≠ 0) : (De t b).natAbs ≤ b.natAbs := by
  unfold De
  split
  · exact Int.natAbs_ediv_le_natAbs ..
  · have := Int.natAbs_ediv_le_natAbs (-b) (G t b)
    omega
theorem g_le (t b : Int) (h : b ≠ 0) : (G t b).natAbs ≤ b.natAbs := by
  have := Int.le_of_dvd (show (0 : Int) < b.natAbs by omega) (show G t b ∣ (b.natAbs : Int) from by
    rw [Int.dvd_natAbs]
    exact G_dr t b)
  have := G_pos (t := t) h
  omega
/-- floors are of the fraction, not of its writing -/
theorem fdiv_nu {x y : Int} (h : y ≠ 0) : x.fdiv y = Nu x y / De x y := by
  have hg := G_pos (t := x) h
  obtain ⟨p, hp⟩ := G_dl x y
  obtain ⟨q, hq⟩ := G_dr x y
  have gp : ∀ c : Int, G x y * c / G x y = c := fun c => Int.mul_ediv_cancel_left c (by omega)
  have e1 : x / G x y = p := by
    have z := gp p
    rw [← hp] at z
    exact z
  have e2 : y / G x y = q := by
    have z := gp q
    rw [← hq] at z
    exact z
  have e3 : -x / G x y = -p := by
    have z := gp (-p)
    rw [Int.mul_neg, ← hp] at z
    exact z
  have e4 : -y / G x y = -q := by
    have z := gp (-q)
    rw [Int.mul_neg, ← hq] at z
    exact z
  unfold Nu De
  by_cases hy : 0 < y
  · rw [if_pos hy, if_pos hy, e1, e2, Int.fdiv_eq_ediv_of_nonneg x (by omega)]
    have z := Int.mul_ediv_mul_of_pos p q hg
    rw [← hp, ← hq] at z
    exact z
  · rw [if_neg hy, if_neg hy, e3, e4]
    have k : x.fdiv y = (-x).fdiv (-y) := (Int.neg_fdiv_neg x y).symm
    rw [k, Int.fdiv_eq_ediv_of_nonneg (-x) (by omega)]
    have z := Int.mul_ediv_mul_of_pos (-p) (-q) hg
    rw [Int.mul_neg, Int.mul_neg, ← hp, ← hq] at z
    exact z
end Ly

namespace Ly
open PySem PySem.Spec PyProof.Rows L2
section
variable {σ : L2.St} {H H' : Hp} {Q : VK} {K : PySem.W.Frag} {v x y : V} {ta tb te : TE} {t u : TA} {i j : Int} {D : Ends} {C : Addr} {sp : Sp} {m : Str}
theorem i_drop (q : te σ H fun _ H1 => D.nx σ H1) : tDrop te D σ H := q
theorem i_not {tt : TT} {Q : Bool → Hp → Prop} (q : tt σ H fun c H1 => Q (!c) H1) : tNot tt σ H Q := q
theorem i_or {tt uu : TT} {Q : Bool → Hp → Prop} (q : tt σ H fun c H1 => if c = true then Q true H1 else uu σ H1 Q) : tOr tt uu σ H Q := q
theorem i_and {tt uu : TT} {Q : Bool → Hp → Prop} (q : tt σ H fun c H1 => if c = true then uu σ H1 Q else Q false H1) : tAnd tt uu σ H Q := q
theorem i_tb {Q : Bool → Hp → Prop} (q : te σ H fun x H1 => ∃ c, x = .bl c ∧ Q c H1) : tB te σ H Q := q
theorem i_andV (q : ta σ H fun x H1 => ∃ c, x = .bl c ∧ if c = true then tb σ H1 Q else Q (.bl false) H1) : tAndV ta tb σ H Q := q
theorem i_orV (q : ta σ H fun x H1 => ∃ c, x = .bl c ∧ if c = true then Q (.bl true) H1 else tb σ H1 Q) : tOrV ta tb σ H Q := q
theorem i_notV (q : ta σ H fun x H1 => ∃ c, x = .bl c ∧ Q (.bl (!c)) H1) : tNotV ta σ H Q := q
theorem i_ifx {tt : TT} (q : tt σ H fun c H1 => if c = true then ta σ H1 Q else tb σ H1 Q) : tIf tt ta tb σ H Q := q
theorem i_ext {P : Bool → Prop} (h : P true) : ∃ c, V.bl true = V.bl c ∧ P c := ⟨true, rfl, h⟩
theorem i_exf {P : Bool → Prop} (h : P false) : ∃ c, V.bl false = V.bl c ∧ P c := ⟨false, rfl, h⟩
theorem i_exn {b : Bool} {P : Bool → Prop} (h : P b) : ∃ c, V.bl b = V.bl c ∧ P c := ⟨b, rfl, h⟩
theorem i_itt {A B : Prop} (h : A) : if true = true then A else B := iteT h
theorem i_itf {A B : Prop} (h : B) : if false = true then A else B := iteF h
theorem i_nt {A B : Prop} (h : B) : if (!true) = true then A else B := iteF h
theorem i_nf {A B : Prop} (h : A) : if (!false) = true then A else B := iteT h
theorem i_ndec {p A B : Prop} [Decidable p] (h1 : p → B) (h2 : ¬ p → A) : if (!decide p) = true then A else B := by
  by_cases h : p
  · rw [decide_eq_true h]
    exact iteF (h1 h)
  · rw [decide_eq_false h]
    exact iteT (h2 h)
theorem i_gcd {a b : Int} (q : Q (.int (G a b)) H) : rGcd [.int a, .int b] H Q := ⟨a, b, rfl, q⟩
def rFld (K : PySem.W.Frag) (f : Str) : V → Hp → VK → Prop := fun x H1 Q => ∃ a C dx fs v, x = .ref a ∧ H1 a = some (.ins C dx fs) ∧ Cls K C ∧ NoAttr K C f ∧ fs.lookup f = some v ∧ Q v H1
theorem i_fld {f : Str} (q : ta σ H fun x H1 => rFld K f x H1 Q) : tFld K ta f σ H Q := q
def rSFld (K : PySem.W.Frag) (f : Str) (y x : V) (H2 : Hp) (q : Hp → Prop) : Prop := ∃ a C dx fs, x = .ref a ∧ H2 a = some (.ins C dx fs) ∧ Cls K C ∧ NoAttr K C f ∧ fs.length < 1000 ∧ q (upd H2 a (.ins C dx (putF f y fs)))
theorem i_sfld {f : Str} (q : tb σ H fun y H1 => ta σ H1 fun x H2 => rSFld K f y x H2 (D.nx σ)) : sFld K ta tb f D σ H := q
def rPp (C : Addr) (sp : Sp) : V → Hp → VK → Prop := fun x H1 Q => ∃ a dx fs, x = .ref a ∧ H1 a = some (.ins C dx fs) ∧ sp [.ref a] H1 Q E0
theorem i_pp (q : ta σ H fun x H1 => rPp C sp x H1 Q) : tProp C sp [] E0 ta σ H Q := q
def rMeth (C : Addr) (m : Str) (σ : L2.St) (t : TA) (sp : Sp) : V → Hp → VK → Prop := fun x H1 Q => ∃ a dx fs, x = .ref a ∧ H1 a = some (.ins C dx fs) ∧ fs.lookup m = none ∧ t σ H1 fun vs H2 => sp (x :: vs) H2 Q E0
theorem i_meth (q : ta σ H fun x H1 => rMeth C m σ t sp x H1 Q) : tMeth C m sp [] E0 ta t σ H Q := by
  have e : (fun (x : V) (H1 : Hp) => rMeth C m σ t sp x H1 Q) = fun x H1 => ∃ a dx fs, x = .ref a ∧ H1 a = some (.ins C dx fs) ∧ fs.lookup m = none ∧ t σ H1 fun vs H2 => sp (x :: (vs ++ [])) H2 Q E0 := by
    funext x H1
    simp only [rMeth, List.append_nil]
  rw [e] at q
  exact q
theorem i_smeth (q : t σ H fun vs H2 => sp vs H2 Q E0) : tSMeth C sp [] (tC (.ref C)) t σ H Q := by
  refine ⟨rfl, ?_⟩
  simpa only [List.append_nil] using q
def rMake (C : Addr) (sp : Sp) (dvs : List V) : List V → Hp → VK → Prop := fun vs H1 Q => ∀ x dx, H1 x = none → H1 dx = none → dx ≠ x → sp (.ref x :: (vs ++ dvs)) (upd (upd H1 dx (.own x)) x (.ins C dx [])) (fun v H2 => v = .non ∧ Q (.ref x) H2) E0
theorem i_make {dvs : List V} (q : t σ H fun vs H1 => rMake C sp dvs vs H1 Q) : tMake C sp dvs E0 t σ H Q := q
theorem i_par {n k : Nat} {v w : V} (q : D.nx ((σ.set n (some v)).set k (some w)) H) : (∃ a b, [v, w] = [a, b] ∧ D.nx ((σ.set n (some a)).set k (some b)) H) := ⟨v, w, rfl, q⟩
def rPar (n k : Nat) (σ : L2.St) (nx : L2.St → Hp → Prop) : List V → Hp → Prop := fun vs H1 => ∃ v w, vs = [v, w] ∧ nx ((σ.set n (some v)).set k (some w)) H1
theorem i_tpar {n k : Nat} (q : t σ H fun vs H1 => rPar n k σ D.nx vs H1) : tPar n k t D σ H := q
theorem i_rpar {n k : Nat} {nx : L2.St → Hp → Prop} {v w : V} (q : nx ((σ.set n (some v)).set k (some w)) H) : rPar n k σ nx [v, w] H := ⟨v, w, rfl, q⟩
theorem i_isi {T n : String} {b : Bool} (ty : TyX K H x (.type T)) (k : kitB T n = some b) (q : Q (.bl b) H) : rIsi K [x, .ty n] H Q := ⟨x, .ty n, .type T, .type n, b, rfl, .ty n, ty, kit_ty k, q⟩
theorem i_isiO {tv : Value} {b : Bool} (ty : TyX K H x tv) (k : PySem.W.kitOne K tv (.ref C) = some b) (q : Q (.bl b) H) : rIsi K [x, .ref C] H Q := ⟨x, .ref C, tv, .ref C, b, rfl, .own C, ty, k, q⟩
end
/-- // by a divisor of either sign, below 2 ^ 9000 -/
def CDivX (_ j : Int) : Prop := j ≠ 0 ∧ j.natAbs.log2 < 9000
theorem op_fdivX {X : Cx} : OpR X (binaryOp .FloorDiv) (rI CDivX fun i j => .int (i.fdiv j)) := opI fun _ _ _ _ _ _ _ hc q => floordiv_int hc.1 q (.inl (PyProof.noPylong_of_log2 hc.2))
theorem cdivx {i j : Int} (h : j ≠ 0) {b : Nat} (hb : j.natAbs < 2 ^ b) (h0 : 0 < b) (h9 : b ≤ 9000) : CDivX i j := ⟨h, Nat.lt_of_lt_of_le (PySem.Flt.log2_lt_of h0 hb) h9⟩

/-! ### Ratios in the heap -/
def flds (t b : Int) : List (Str × V) := [("_top", .int t), ("_bottom", .int b)]
def RatAt (C : Addr) (H : Hp) (a : Addr) (t b : Int) : Prop := ∃ dx, H a = some (.ins C dx (flds t b))
theorem RatAt.same {C : Addr} {H H' : Hp} {a : Addr} {t b : Int} (s : Same H H') (r : RatAt C H a t b) : RatAt C H' a t b := by
  obtain ⟨dx, e⟩ := r
  exact ⟨dx, s _ _ e⟩
/-- a number: an int, or a Ratio -/
def Num (C : Addr) (H : Hp) (v : V) (t b : Int) : Prop := (v = .int t ∧ b = 1) ∨ ∃ a, v = .ref a ∧ RatAt C H a t b
theorem Num.same {C : Addr} {H H' : Hp} {v : V} {t b : Int} (s : Same H H') (r : Num C H v t b) : Num C H' v t b := by
  rcases r with r | ⟨a, e, r⟩
  · exact .inl r
  · exact .inr ⟨a, e, r.same s⟩
theorem bot_top : ¬ (("_bottom" : Str) = "_top") := by decide +kernel
theorem flds_top (t b : Int) : (flds t b).lookup ("_top" : Str) = some (.int t) := by
  unfold flds
  simp [List.lookup]
theorem flds_bot (t b : Int) : (flds t b).lookup ("_bottom" : Str) = some (.int b) := by
  have e : (("_bottom" : Str) == ("_top" : Str)) = false := by simpa using bot_top
  unfold flds
  simp [List.lookup, e]
theorem flds_no (t b : Int) {m : Str} (h1 : ¬ m = "_top") (h2 : ¬ m = "_bottom") : (flds t b).lookup m = none := by
  have e1 : (m == ("_top" : Str)) = false := by simpa using h1
  have e2 : (m == ("_bottom" : Str)) = false := by simpa using h2
  unfold flds
  simp [List.lookup, e1, e2]
theorem put_flds (t b : Int) : putF "_bottom" (.int b) (putF "_top" (.int t) []) = flds t b := by
  show (if ("_top" : Str) = "_bottom" then _ else (("_top" : Str), V.int t) :: putF "_bottom" (.int b) []) = flds t b
  rw [if_neg (fun z => bot_top z.symm)]
  rfl
section
variable {C a : Addr} {H : Hp} {Q : VK} {K : PySem.W.Frag} {t b : Int} {v : V}
theorem i_rtop (r : RatAt C H a t b) (c : Cls K C) (n : NoAttr K C "_top") (q : Q (.int t) H) : rFld K "_top" (.ref a) H Q := by
  obtain ⟨dx, e⟩ := r
  exact ⟨a, C, dx, _, _, rfl, e, c, n, flds_top t b, q⟩
theorem i_rbot (r : RatAt C H a t b) (c : Cls K C) (n : NoAttr K C "_bottom") (q : Q (.int b) H) : rFld K "_bottom" (.ref a) H Q := by
  obtain ⟨dx, e⟩ := r
  exact ⟨a, C, dx, _, _, rfl, e, c, n, flds_bot t b, q⟩
theorem i_rpp {sp : Sp} (r : RatAt C H a t b) (q : sp [.ref a] H Q E0) : rPp C sp (.ref a) H Q := by
  obtain ⟨dx, e⟩ := r
  exact ⟨a, dx, _, rfl, e, q⟩
theorem i_rmeth {m : Str} {σ : L2.St} {tt : TA} {sp : Sp} (r : RatAt C H a t b) (h1 : ¬ m = "_top") (h2 : ¬ m = "_bottom") (q : tt σ H fun vs H2 => sp (.ref a :: vs) H2 Q E0) : rMeth C m σ tt sp (.ref a) H Q := by
  obtain ⟨dx, e⟩ := r
  exact ⟨a, dx, _, rfl, e, flds_no t b h1 h2, q⟩
/-- what Ratio's constructor promises -/
def spInit (C : Addr) : Sp := fun vs H Q _ => ∃ (x dx : Addr) (t b : Int), vs = [.ref x, .int t, .int b] ∧ H x = some (.ins C dx []) ∧ b ≠ 0 ∧ t.natAbs < 2 ^ 8900 ∧ b.natAbs < 2 ^ 8900 ∧
  ∀ H', H' x = some (.ins C dx (flds (Nu t b) (De t b))) → (∀ c o, c ≠ x → H c = some o → H' c = some o) → Q .non H'
theorem i_mk2 {t b : Int} (hb : b ≠ 0) (z1 : t.natAbs < 2 ^ 8900) (z2 : b.natAbs < 2 ^ 8900) (q : ∀ x H', H x = none → Same H H' → RatAt C H' x (Nu t b) (De t b) → Q (.ref x) H') : rMake C (spInit C) [] [.int t, .int b] H Q := by
  intro x dx nx nd ne
  refine ⟨x, dx, t, b, rfl, upd_same, hb, z1, z2, fun H' h1 h2 => ⟨rfl, ?_⟩⟩
  refine q x H' nx (fun c o e => h2 c o (ne_of_none e nx) ?_) ⟨dx, h1⟩
  rw [upd_ne (ne_of_none e nx), upd_ne (ne_of_none e nd)]
  exact e
theorem i_mk1 {t : Int} (z1 : t.natAbs < 2 ^ 8900) (q : ∀ x H', H x = none → Same H H' → RatAt C H' x t 1 → Q (.ref x) H') : rMake C (spInit C) [.int 1] [.int t] H Q := by
  intro x dx nx nd ne
  refine ⟨x, dx, t, 1, rfl, upd_same, by decide, z1, Nat.one_lt_two_pow (by decide), fun H' h1 h2 => ⟨rfl, ?_⟩⟩
  rw [(lo_int t).nu, (lo_int t).de] at h1
  refine q x H' nx (fun c o e => h2 c o (ne_of_none e nx) ?_) ⟨dx, h1⟩
  rw [upd_ne (ne_of_none e nx), upd_ne (ne_of_none e nd)]
  exact e
end

/-! ### sizes -/
def Sz (n : Nat) (x : Int) : Prop := x.natAbs < 2 ^ n
theorem sz_mono {n m : Nat} {x : Int} (h : Sz n x) (k : n ≤ m) : Sz m x := Nat.lt_of_lt_of_le h (Nat.pow_le_pow_right (by decide) k)
theorem sz_le {n : Nat} {x y : Int} (h : Sz n x) (k : y.natAbs ≤ x.natAbs) : Sz n y := Nat.lt_of_le_of_lt k h
theorem sz_mul {n m : Nat} {x y : Int} (h : Sz n x) (k : Sz m y) : Sz (n + m) (x * y) := wide_lt h k
theorem sz_add {n : Nat} {x y : Int} (h : Sz n x) (k : Sz n y) : Sz (n + 1) (x + y) := by
  unfold Sz at *
  rw [Nat.pow_succ]
  omega
theorem sz_sub {n : Nat} {x y : Int} (h : Sz n x) (k : Sz n y) : Sz (n + 1) (x - y) := by
  unfold Sz at *
  rw [Nat.pow_succ]
  omega
theorem sz_neg {n : Nat} {x : Int} (h : Sz n x) : Sz n (-x) := by
  unfold Sz at *
  omega
theorem sz_nu {n : Nat} {t b : Int} (hb : b ≠ 0) (h : Sz n t) : Sz n (Nu t b) := sz_le h (nu_le t b hb)
theorem sz_de {n : Nat} {t b : Int} (hb : b ≠ 0) (h : Sz n b) : Sz n (De t b) := sz_le h (de_le t b hb)
theorem cmul_sz {n m : Nat} {x y : Int} (h : Sz n x) (k : Sz m y) (h0 : 0 < n := by decide) (h1 : 0 < m := by decide) (h2 : n + m ≤ 1000000 := by decide) : CMulW x y := wide_mul h k h0 h1 h2
theorem cdivx_sz {n : Nat} {x y : Int} (h : y ≠ 0) (k : Sz n y) (h0 : 0 < n := by decide) (h9 : n ≤ 9000 := by decide) : CDivX x y := cdivx h k h0 h9
theorem sz_1 {n : Nat} (h : 0 < n := by decide) : Sz n 1 := Nat.one_lt_two_pow (by omega)
theorem sz_ediv {n : Nat} {x y : Int} (h : Sz n x) : Sz n (x / y) := sz_le h (Int.natAbs_ediv_le_natAbs ..)

/-! ### promises of Ratio's methods -/
section
variable {H : Hp} {Q : VK} {E : XK} {C : Addr} {i : Int}
def spIsInt : Sp := fun vs H Q _ => ∃ i : Int, vs = [.int i] ∧ Q (.bl true) H
theorem i_isint (q : Q (.bl true) H) : spIsInt [.int i] H Q E := ⟨i, rfl, q⟩
def spOf (C : Addr) : Sp := fun vs H Q _ => ∃ (v : V) (t b : Int), vs = [v] ∧ Num C H v t b ∧ Sz 4000 t ∧ ∀ r H', Same H H' → RatAt C H' r t b → Q (.ref r) H'
theorem i_of {v : V} {t b : Int} (n : Num C H v t b) (z : Sz 4000 t) (q : ∀ r H', Same H H' → RatAt C H' r t b → Q (.ref r) H') : spOf C [v] H Q E := ⟨v, t, b, rfl, n, z, q⟩
def spTop (C : Addr) : Sp := fun vs H Q _ => ∃ (x : Addr) (t b : Int), vs = [.ref x] ∧ RatAt C H x t b ∧ Q (.int t) H
theorem i_top {x : Addr} {t b : Int} (r : RatAt C H x t b) (q : Q (.int t) H) : spTop C [.ref x] H Q E := ⟨x, t, b, rfl, r, q⟩
def spBot (C : Addr) : Sp := fun vs H Q _ => ∃ (x : Addr) (t b : Int), vs = [.ref x] ∧ RatAt C H x t b ∧ Q (.int b) H
theorem i_bot {x : Addr} {t b : Int} (r : RatAt C H x t b) (q : Q (.int b) H) : spBot C [.ref x] H Q E := ⟨x, t, b, rfl, r, q⟩
/-- a number as the methods want it -/
structure Ok4 (t b : Int) : Prop where
  lo : Lo t b
  zt : Sz 4000 t
  zb : Sz 4000 b
/-- one op other, both numbers: a new Ratio -/
def spBin (C : Addr) (nu de : Int → Int → Int → Int → Int) : Sp := fun vs H Q _ => ∃ (x : Addr) (v : V) (t b t2 b2 : Int), vs = [.ref x, v] ∧ RatAt C H x t b ∧ Ok4 t b ∧ Num C H v t2 b2 ∧ Ok4 t2 b2 ∧
  ∀ r H', H r = none → Same H H' → RatAt C H' r (Nu (nu t b t2 b2) (de t b t2 b2)) (De (nu t b t2 b2) (de t b t2 b2)) → Q (.ref r) H'
theorem i_bin {nu de : Int → Int → Int → Int → Int} {x : Addr} {v : V} {t b t2 b2 : Int} (h1 : RatAt C H x t b) (h2 : Ok4 t b) (h3 : Num C H v t2 b2) (h4 : Ok4 t2 b2)
    (q : ∀ r H', H r = none → Same H H' → RatAt C H' r (Nu (nu t b t2 b2) (de t b t2 b2)) (De (nu t b t2 b2) (de t b t2 b2)) → Q (.ref r) H') : spBin C nu de [.ref x, v] H Q E := ⟨x, v, t, b, t2, b2, rfl, h1, h2, h3, h4, q⟩
/-- the reflected one: the other side an int -/
def spRev (C : Addr) (nu de : Int → Int → Int → Int → Int) : Sp := fun vs H Q _ => ∃ (x : Addr) (i t b : Int), vs = [.ref x, .int i] ∧ RatAt C H x t b ∧ Ok4 t b ∧ Sz 4000 i ∧
  ∀ r H', H r = none → Same H H' → RatAt C H' r (Nu (nu i 1 t b) (de i 1 t b)) (De (nu i 1 t b) (de i 1 t b)) → Q (.ref r) H'
theorem i_rev {nu de : Int → Int → Int → Int → Int} {x : Addr} {i t b : Int} (h1 : RatAt C H x t b) (h2 : Ok4 t b) (h3 : Sz 4000 i)
    (q : ∀ r H', H r = none → Same H H' → RatAt C H' r (Nu (nu i 1 t b) (de i 1 t b)) (De (nu i 1 t b) (de i 1 t b)) → Q (.ref r) H') : spRev C nu de [.ref x, .int i] H Q E := ⟨x, i, t, b, rfl, h1, h2, h3, q⟩
end
/-- one number: a new Ratio of another top -/
def spUn (C : Addr) (f : Int → Int) : Sp := fun vs H Q _ => ∃ (x : Addr) (t b : Int), vs = [.ref x] ∧ RatAt C H x t b ∧ Ok4 t b ∧ ∀ r H', H r = none → Same H H' → RatAt C H' r (Nu (f t) b) (De (f t) b) → Q (.ref r) H'
def spInt (C : Addr) (f : Int → Int → Int) : Sp := fun vs H Q _ => ∃ (x : Addr) (t b : Int), vs = [.ref x] ∧ RatAt C H x t b ∧ 0 < b ∧ Sz 8900 b ∧ Q (.int (f t b)) H
def cmpI (t b t2 b2 : Int) : Int := if t * b2 < t2 * b then -1 else if t2 * b < t * b2 then 1 else 0
def spCmp (C : Addr) : Sp := fun vs H Q _ => ∃ (x : Addr) (v : V) (t b t2 b2 : Int), vs = [.ref x, v] ∧ RatAt C H x t b ∧ Ok4 t b ∧ Num C H v t2 b2 ∧ Ok4 t2 b2 ∧ ∀ H', Same H H' → Q (.int (cmpI t b t2 b2)) H'
theorem sz_absI {n : Nat} {t : Int} (z : Sz n t) : Sz n (if t < 0 then -t else t) := by
  unfold Sz at *
  split <;> omega
def aN (t b t2 b2 : Int) : Int := t * b2 + t2 * b
def sN (t b t2 b2 : Int) : Int := t * b2 - t2 * b
def mN (t _ t2 _ : Int) : Int := t * t2
def dD (_ b _ b2 : Int) : Int := b * b2
def oN (t _ _ b2 : Int) : Int := t * b2
def oD (_ b t2 _ : Int) : Int := b * t2
theorem ok_int {i : Int} (z : Sz 4000 i) : Ok4 i 1 := ⟨lo_int i, z, sz_1⟩
def spOver (C : Addr) : Sp := fun vs H Q _ => ∃ (x : Addr) (v : V) (t b t2 b2 : Int), vs = [.ref x, v] ∧ RatAt C H x t b ∧ Ok4 t b ∧ Num C H v t2 b2 ∧ Ok4 t2 b2 ∧ t2 ≠ 0 ∧
  ∀ r H', H r = none → Same H H' → RatAt C H' r (Nu (oN t b t2 b2) (oD t b t2 b2)) (De (oN t b t2 b2) (oD t b t2 b2)) → Q (.ref r) H'
end Ly

namespace Ly
open PySem PySem.Spec PyProof.Rows L2
/-! ### an operator by a method of the class, from either side -/
section
variable {X : Cx} {k j : Nat} {C : Addr} {x m : Str} {sp spR : Sp} {op : Operator}
theorem opm2 (h : Mt ⟨X.prog, X.w, X.K, X.mg, X.base⟩ k C m sp) (o : OwnC X.K X.mg x C) (hr : Room j X.A) (hk : k ≤ j) (e : PySem.dunder op.info.2 = m) : OpR X (binaryOp op) (rOwn2 C sp) := by
  subst e
  obtain ⟨f, fd, ps, hm, F, b⟩ := h.ex
  exact op_own2 F (hr.mono hk) b hm.at_ hm.fn o.sf
theorem opmI (h : Mt ⟨X.prog, X.w, X.K, X.mg, X.base⟩ k C m sp) (o : OwnC X.K X.mg x C) (hr : Room j X.A) (hk : k ≤ j) (e : PySem.dunder op.info.2 = m) {rc : Option Value} (hrc : PySem.W.findIn X.K (.ref C) (dunderR op.info.2) = some rc) (hp : rc = none ∨ ∃ g : Addr, rc = some (.ref g))
    {fo ro : Option Value} (h1 : PySem.W.findIn X.K (.type "int") (PySem.dunder op.info.2) = some fo) (h2 : PySem.W.findIn X.K (.type "int") (dunderR op.info.2) = some ro) : OpR X (binaryOp op) (rOwnI C sp) := by
  subst e
  obtain ⟨f, fd, ps, hm, F, b⟩ := h.ex
  exact op_ownI F (hr.mono hk) b hm.at_ hm.fn o.sf hrc hp h1 h2 o.sI
theorem opIm {id : String} {B : Builtin} (io : IntOp op.info.2 id B) (h : Mt ⟨X.prog, X.w, X.K, X.mg, X.base⟩ k C m spR) (o : OwnC X.K X.mg x C) (hr : Room j X.A) (hk : k ≤ j) (e : dunderR op.info.2 = m) {g : Addr} (hl : PySem.W.findIn X.K (.ref C) (PySem.dunder op.info.2) = some (some (.ref g)))
    {fo ro : Option Value} (h1 : PySem.W.findIn X.K (.type "int") (PySem.dunder op.info.2) = some fo) (h2 : PySem.W.findIn X.K (.type "int") (dunderR op.info.2) = some ro) (h12 : ((fo.isSome && !isSeqSlot fo) || (ro.isSome && !isSeqSlot ro)) = true) : OpR X (binaryOp op) (rIOwn C spR) := by
  subst e
  obtain ⟨f, fd, ps, hm, F, b⟩ := h.ex
  exact op_Iown io F (hr.mono hk) b hm.at_ hm.fn o.sf hl h1 h2 h12 o.sI'
def rNumOp (C : Addr) (sp spR : Sp) : R2 := rOr (rOwn2 C sp) (rOr (rOwnI C sp) (rIOwn C spR))
/-- from both methods -/
theorem op_num {id : String} {B : Builtin} {k' : Nat} {m' : Str} (io : IntOp op.info.2 id B) (h : Mt ⟨X.prog, X.w, X.K, X.mg, X.base⟩ k C m sp) (h' : Mt ⟨X.prog, X.w, X.K, X.mg, X.base⟩ k' C m' spR) (o : OwnC X.K X.mg x C) (hr : Room j X.A) (hk : k ≤ j) (hk' : k' ≤ j) (e : PySem.dunder op.info.2 = m) (e' : dunderR op.info.2 = m')
    {fo ro : Option Value} (h1 : PySem.W.findIn X.K (.type "int") (PySem.dunder op.info.2) = some fo) (h2 : PySem.W.findIn X.K (.type "int") (dunderR op.info.2) = some ro) (h12 : ((fo.isSome && !isSeqSlot fo) || (ro.isSome && !isSeqSlot ro)) = true) : OpR X (binaryOp op) (rNumOp C sp spR) := by
  obtain ⟨f, fd, ps, hm, F, b⟩ := _root_.id h.ex
  obtain ⟨f', fd', ps', hm', F', b'⟩ := _root_.id h'.ex
  refine opr_or (opm2 h o hr hk e) (opr_or (opmI h o hr hk e (rc := some (.ref f')) ?_ (.inr ⟨f', rfl⟩) h1 h2) (opIm io h' o hr hk' e' (g := f) ?_ h1 h2 h12))
  · rw [e']
    exact hm'.at_
  · rw [e]
    exact hm.at_
end
theorem op_addN {X : Cx} {C : Addr} {x : Str} {k k' j : Nat} {sp spR : Sp} (h : Mt ⟨X.prog, X.w, X.K, X.mg, X.base⟩ k C "__add__" sp) (h' : Mt ⟨X.prog, X.w, X.K, X.mg, X.base⟩ k' C "__radd__" spR) (o : OwnC X.K X.mg x C) (hr : Room j X.A) (hk : k ≤ j) (hk' : k' ≤ j) : OpR X (binaryOp .Add) (rNumOp C sp spR) :=
  op_num (op := .Add) io_add h h' o hr hk hk' (by decide +kernel) (by decide +kernel) (fo := some (.builtin "int.__add__")) (ro := some (.builtin "int.__radd__")) (by with_unfolding_all rfl) (by with_unfolding_all rfl) (by decide +kernel)
theorem op_subN {X : Cx} {C : Addr} {x : Str} {k k' j : Nat} {sp spR : Sp} (h : Mt ⟨X.prog, X.w, X.K, X.mg, X.base⟩ k C "__sub__" sp) (h' : Mt ⟨X.prog, X.w, X.K, X.mg, X.base⟩ k' C "__rsub__" spR) (o : OwnC X.K X.mg x C) (hr : Room j X.A) (hk : k ≤ j) (hk' : k' ≤ j) : OpR X (binaryOp .Sub) (rNumOp C sp spR) :=
  op_num (op := .Sub) io_sub h h' o hr hk hk' (by decide +kernel) (by decide +kernel) (fo := some (.builtin "int.__sub__")) (ro := some (.builtin "int.__rsub__")) (by with_unfolding_all rfl) (by with_unfolding_all rfl) (by decide +kernel)
theorem op_mulN {X : Cx} {C : Addr} {x : Str} {k k' j : Nat} {sp spR : Sp} (h : Mt ⟨X.prog, X.w, X.K, X.mg, X.base⟩ k C "__mul__" sp) (h' : Mt ⟨X.prog, X.w, X.K, X.mg, X.base⟩ k' C "__rmul__" spR) (o : OwnC X.K X.mg x C) (hr : Room j X.A) (hk : k ≤ j) (hk' : k' ≤ j) : OpR X (binaryOp .Mult) (rNumOp C sp spR) :=
  op_num (op := .Mult) io_mul h h' o hr hk hk' (by decide +kernel) (by decide +kernel) (fo := some (.builtin "int.__mul__")) (ro := some (.builtin "int.__rmul__")) (by with_unfolding_all rfl) (by with_unfolding_all rfl) (by decide +kernel)
theorem op_fdN {X : Cx} {C : Addr} {x : Str} {k k' j : Nat} {sp spR : Sp} (h : Mt ⟨X.prog, X.w, X.K, X.mg, X.base⟩ k C "__floordiv__" sp) (h' : Mt ⟨X.prog, X.w, X.K, X.mg, X.base⟩ k' C "__rfloordiv__" spR) (o : OwnC X.K X.mg x C) (hr : Room j X.A) (hk : k ≤ j) (hk' : k' ≤ j) : OpR X (binaryOp .FloorDiv) (rNumOp C sp spR) :=
  op_num (op := .FloorDiv) io_fd h h' o hr hk hk' (by decide +kernel) (by decide +kernel) (fo := some (.builtin "int.__floordiv__")) (ro := some (.builtin "int.__rfloordiv__")) (by with_unfolding_all rfl) (by with_unfolding_all rfl) (by decide +kernel)
theorem op_mdN {X : Cx} {C : Addr} {x : Str} {k k' j : Nat} {sp spR : Sp} (h : Mt ⟨X.prog, X.w, X.K, X.mg, X.base⟩ k C "__mod__" sp) (h' : Mt ⟨X.prog, X.w, X.K, X.mg, X.base⟩ k' C "__rmod__" spR) (o : OwnC X.K X.mg x C) (hr : Room j X.A) (hk : k ≤ j) (hk' : k' ≤ j) : OpR X (binaryOp .Mod) (rNumOp C sp spR) :=
  op_num (op := .Mod) io_mod h h' o hr hk hk' (by decide +kernel) (by decide +kernel) (fo := some (.builtin "int.__mod__")) (ro := some (.builtin "int.__rmod__")) (by with_unfolding_all rfl) (by with_unfolding_all rfl) (by decide +kernel)

/-! ### promises with a condition and any end -/
abbrev Q4 := Int → Int → Int → Int → Prop
abbrev P4 := Int → Int → Int → Int → Hp → VK → Prop
def spBinG (C : Addr) (pre : Q4) (post : P4) : Sp := fun vs H Q _ => ∃ (x : Addr) (v : V) (t b t2 b2 : Int), vs = [.ref x, v] ∧ RatAt C H x t b ∧ Ok4 t b ∧ Num C H v t2 b2 ∧ Ok4 t2 b2 ∧ pre t b t2 b2 ∧ post t b t2 b2 H Q
def spRevG (C : Addr) (pre : Q4) (post : P4) : Sp := fun vs H Q _ => ∃ (x : Addr) (i t b : Int), vs = [.ref x, .int i] ∧ RatAt C H x t b ∧ Ok4 t b ∧ Sz 4000 i ∧ pre i 1 t b ∧ post i 1 t b H Q
/-- a new Ratio | an int -/
def pR (C : Addr) (nu de : Int → Int → Int → Int → Int) : P4 := fun t b t2 b2 H Q => ∀ r H', H r = none → Same H H' → RatAt C H' r (Nu (nu t b t2 b2) (de t b t2 b2)) (De (nu t b t2 b2) (de t b t2 b2)) → Q (.ref r) H'
def pI (f : Int → Int → Int → Int → Int) : P4 := fun t b t2 b2 H Q => ∀ H', Same H H' → Q (.int (f t b t2 b2)) H'
section
variable {H : Hp} {Q : VK} {E : XK} {C : Addr} {x y : V} {t b t2 b2 : Int}
theorem Num.ok (n : Num C H x t b) (z : Sz 4000 t) (h : ∀ a, x = .ref a → Ok4 t b) : Ok4 t b := by
  rcases n with ⟨e, rfl⟩ | ⟨a, e, r⟩
  · exact ok_int z
  · exact h a e
theorem i_numG {pre : Q4} {post : P4} (hx : Num C H x t b) (hy : Num C H y t2 b2) (o : Ok4 t b) (o2 : Ok4 t2 b2) (h : (∃ a, x = .ref a) ∨ ∃ a, y = .ref a) (p : pre t b t2 b2) (q : post t b t2 b2 H Q) : rNumOp C (spBinG C pre post) (spRevG C pre post) x y H Q := by
  rcases hx with ⟨rfl, rfl⟩ | ⟨a, rfl, ra⟩
  · rcases hy with ⟨rfl, rfl⟩ | ⟨c, rfl, rc⟩
    · rcases h with ⟨_, z⟩ | ⟨_, z⟩ <;> cases z
    · obtain ⟨dx, e⟩ := id rc
      exact .inr (.inr ⟨c, t, dx, _, rfl, rfl, e, c, t, t2, b2, rfl, rc, o2, o.zt, p, q⟩)
  · obtain ⟨dx, e⟩ := id ra
    rcases id hy with ⟨rfl, rfl⟩ | ⟨c, rfl, rc⟩
    · exact .inr (.inl ⟨a, t2, dx, _, rfl, rfl, e, a, .int t2, t, b, t2, 1, rfl, ra, o, hy, o2, p, q⟩)
    · obtain ⟨dy, e'⟩ := id rc
      exact .inl ⟨a, c, dx, dy, _, _, rfl, rfl, e, e', a, .ref c, t, b, t2, b2, rfl, ra, o, hy, o2, p, q⟩
theorem i_num {nu de : Int → Int → Int → Int → Int} (hx : Num C H x t b) (hy : Num C H y t2 b2) (o : Ok4 t b) (o2 : Ok4 t2 b2) (h : (∃ a, x = .ref a) ∨ ∃ a, y = .ref a) (q : pR C nu de t b t2 b2 H Q) : rNumOp C (spBin C nu de) (spRev C nu de) x y H Q := by
  rcases hx with ⟨rfl, rfl⟩ | ⟨a, rfl, ra⟩
  · rcases hy with ⟨rfl, rfl⟩ | ⟨c, rfl, rc⟩
    · rcases h with ⟨_, z⟩ | ⟨_, z⟩ <;> cases z
    · obtain ⟨dx, e⟩ := id rc
      exact .inr (.inr ⟨c, t, dx, _, rfl, rfl, e, c, t, t2, b2, rfl, rc, o2, o.zt, q⟩)
  · obtain ⟨dx, e⟩ := id ra
    rcases id hy with ⟨rfl, rfl⟩ | ⟨c, rfl, rc⟩
    · exact .inr (.inl ⟨a, t2, dx, _, rfl, rfl, e, a, .int t2, t, b, t2, 1, rfl, ra, o, hy, o2, q⟩)
    · obtain ⟨dy, e'⟩ := id rc
      exact .inl ⟨a, c, dx, dy, _, _, rfl, rfl, e, e', a, .ref c, t, b, t2, b2, rfl, ra, o, hy, o2, q⟩
theorem RatAt.num {a : Addr} (r : RatAt C H a t b) : Num C H (.ref a) t b := .inr ⟨a, rfl, r⟩
theorem num_int (i : Int) : Num C H (.int i) i 1 := .inl ⟨rfl, rfl⟩
/-- two Ratios -/
theorem i_own2 {nu de : Int → Int → Int → Int → Int} {a c : Addr} (ra : RatAt C H a t b) (rc : RatAt C H c t2 b2) (o : Ok4 t b) (o2 : Ok4 t2 b2) (q : pR C nu de t b t2 b2 H Q) : rOwn2 C (spBin C nu de) (.ref a) (.ref c) H Q := by
  obtain ⟨dx, e⟩ := id ra
  obtain ⟨dy, e'⟩ := id rc
  exact ⟨a, c, dx, dy, _, _, rfl, rfl, e, e', a, .ref c, t, b, t2, b2, rfl, ra, o, rc.num, o2, q⟩
theorem i_own2G {pre : Q4} {post : P4} {a c : Addr} (ra : RatAt C H a t b) (rc : RatAt C H c t2 b2) (o : Ok4 t b) (o2 : Ok4 t2 b2) (p : pre t b t2 b2) (q : post t b t2 b2 H Q) : rOwn2 C (spBinG C pre post) (.ref a) (.ref c) H Q := by
  obtain ⟨dx, e⟩ := id ra
  obtain ⟨dy, e'⟩ := id rc
  exact ⟨a, c, dx, dy, _, _, rfl, rfl, e, e', a, .ref c, t, b, t2, b2, rfl, ra, o, rc.num, o2, p, q⟩
theorem pR_same {nu de : Int → Int → Int → Int → Int} {H' : Hp} (s : Same H H') (q : pR C nu de t b t2 b2 H Q) : pR C nu de t b t2 b2 H' Q := fun r H2 n s2 hr => q r H2 (s.free n) (s.trans s2) hr
theorem pI_same {f : Int → Int → Int → Int → Int} {H' : Hp} (s : Same H H') (q : pI f t b t2 b2 H Q) : pI f t b t2 b2 H' Q := fun H2 s2 => q H2 (s.trans s2)
end
/-- the floor of the quotient -/
def fQ (t b t2 b2 : Int) : Int := Nu (oN t b t2 b2) (oD t b t2 b2) / De (oN t b t2 b2) (oD t b t2 b2)
def nz4 : Q4 := fun _ _ t2 _ => t2 ≠ 0
/-- the condition of % -/
def pM : Q4 := fun t b t2 b2 => t2 ≠ 0 ∧ Sz 1300 t ∧ Sz 1300 b ∧ Sz 1300 t2 ∧ Sz 1300 b2
/-- the rest: t/b less fQ times t2/b2 -/
def rT (t b t2 b2 : Int) : Int := Nu (mN (fQ t b t2 b2) 1 t2 b2) (dD (fQ t b t2 b2) 1 t2 b2)
def rB (t b t2 b2 : Int) : Int := De (mN (fQ t b t2 b2) 1 t2 b2) (dD (fQ t b t2 b2) 1 t2 b2)
def rN (t b t2 b2 : Int) : Int := sN t b (rT t b t2 b2) (rB t b t2 b2)
def rD (t b t2 b2 : Int) : Int := dD t b (rT t b t2 b2) (rB t b t2 b2)

/-! ### texts of numbers -/
def It (i : Int) : Str := Str.ofString (toString i)
theorem it_len {i : Int} (h : Sz 1900 i) : (It i).length ≤ 2000 := by
  have h2 : i.natAbs.log2 < 1920 := Nat.lt_of_lt_of_le (PySem.Flt.log2_lt_of (by decide) h) (by decide)
  have e := int_text_length_le (k := 1920) (by decide) h2
  unfold It
  rw [PySem.ofString_length]
  omega
theorem it_log {i : Int} (h : Sz 1900 i) : i.natAbs.log2 < 1920 := Nat.lt_of_lt_of_le (PySem.Flt.log2_lt_of (by decide) h) (by decide)
theorem sl_of {n : Nat} (h : n ≤ 100000) : n ≤ sizeLine := Nat.le_trans h (by decide)
theorem app_len (x y : Str) : (x ++ y).length = x.length + y.length := by
  show (x.cps ++ y.cps).size = _
  rw [Array.size_append]
  rfl
theorem emp_app (x : Str) : Str.empty ++ x = x := by
  show (⟨#[] ++ x.cps⟩ : Str) = x
  rw [Array.empty_append]
theorem app_assoc (x y z : Str) : x ++ y ++ z = x ++ (y ++ z) := by
  show (⟨x.cps ++ y.cps ++ z.cps⟩ : Str) = ⟨x.cps ++ (y.cps ++ z.cps)⟩
  rw [Array.append_assoc]
/-- str of a Ratio, repr of one -/
def Rt (t b : Int) : Str := if b = 1 then It t else It t ++ ("/" : Str) ++ It b
def Rp (t b : Int) : Str := ("Ratio(" : Str) ++ It t ++ (", " : Str) ++ It b ++ (")" : Str)
section
variable {H : Hp} {Q : VK} {E : XK} {C : Addr} {σ : L2.St} {ta : TE}
def rFmt : V → Hp → VK → Prop := fun x H1 Q => (∃ y : Str, x = .str y ∧ y.length ≤ sizeLine ∧ Q (.str y) H1) ∨ ∃ i : Int, x = .int i ∧ i.natAbs.log2 < 1920 ∧ Q (.str (toString i)) H1
theorem i_fmt (q : ta σ H fun x H1 => rFmt x H1 Q) : tFmt ta σ H Q := q
theorem i_fmt_i {i : Int} (h : Sz 1900 i) (q : Q (.str (It i)) H) : rFmt (.int i) H Q := .inr ⟨i, rfl, it_log h, q⟩
theorem i_js0 {acc : Str} {Q : Str → Hp → Prop} (q : Q acc H) : tJs [] acc σ H Q := q
theorem i_js {t : TE} {ts : List TE} {acc : Str} {Q : Str → Hp → Prop} (q : t σ H fun x H1 => ∃ y : Str, x = .str y ∧ (acc ++ y).length ≤ sizeLine ∧ tJs ts (acc ++ y) σ H1 Q) : tJs (t :: ts) acc σ H Q := q
def spTxt (C : Addr) (f : Int → Int → Str) : Sp := fun vs H Q _ => ∃ (x : Addr) (t b : Int), vs = [.ref x] ∧ RatAt C H x t b ∧ Sz 1900 t ∧ Sz 1900 b ∧ Q (.str (f t b)) H
def rStr1 : List V → Hp → VK → Prop := fun xs H Q => ∃ i, xs = [.int i] ∧ i.natAbs.log2 < 1920 ∧ Q (.str (toString i)) H
theorem call_strU {X : Cx} : CallR X (.type "str") rStr1 := call_str_int
theorem i_str_i {i : Int} (h : Sz 1900 i) (q : Q (.str (It i)) H) : rStr1 [.int i] H Q := ⟨i, rfl, it_log h, q⟩
def isRef : V → Bool
  | .ref _ => true
  | _ => false
def spREq (C : Addr) : Sp := fun vs H Q _ => ∃ (x : Addr) (v : V) (t b t2 b2 : Int), vs = [.ref x, v] ∧ RatAt C H x t b ∧ Num C H v t2 b2 ∧ Q (.bl (isRef v && (decide (t = t2) && decide (b = b2)))) H
end
end Ly

namespace Lw
open PySem PySem.Spec PyProof.Rows L2 Ly
def top (i : Nat) : Stmt := PySem.Challenge.pw_evenloads_k11_whole_ratios_by_own_fracti.main.body.getD i (.Pass ⟨0, 0, 0, 0⟩)
abbrev s_Ratio_init : Stmt := inClass (top 7) 0
abbrev N_Ratio_init : List Str := ["self", "top", "bottom", "common"]
theorem sc_Ratio_init : FnScope N_Ratio_init ["self", "top", "bottom"] (defScope s_Ratio_init) := ⟨rfl, rfl, rfl, by decide +kernel, rfl, by decide +kernel, by decide +kernel⟩
abbrev s_Ratio_of : Stmt := inClass (top 7) 1
abbrev N_Ratio_of : List Str := ["value"]
theorem sc_Ratio_of : FnScope N_Ratio_of ["value"] (defScope s_Ratio_of) := ⟨rfl, rfl, rfl, by decide +kernel, rfl, by decide +kernel, by decide +kernel⟩
theorem bd_Ratio_of : BindOk "of" "Ratio.of" s_Ratio_of ["value"] := fun _ _ _ _ _ _ us hl => match us, hl with | [_], _ => rfl
abbrev s_Ratio_read : Stmt := inClass (top 7) 2
abbrev N_Ratio_read : List Str := ["text", "number"]
theorem sc_Ratio_read : FnScope N_Ratio_read ["text"] (defScope s_Ratio_read) := ⟨rfl, rfl, rfl, by decide +kernel, rfl, by decide +kernel, by decide +kernel⟩
theorem bd_Ratio_read : BindOk "read" "Ratio.read" s_Ratio_read ["text"] := fun _ _ _ _ _ _ us hl => match us, hl with | [_], _ => rfl
abbrev s_Ratio_top : Stmt := inClass (top 7) 3
abbrev N_Ratio_top : List Str := ["self"]
theorem sc_Ratio_top : FnScope N_Ratio_top ["self"] (defScope s_Ratio_top) := ⟨rfl, rfl, rfl, by decide +kernel, rfl, by decide +kernel, by decide +kernel⟩
theorem bd_Ratio_top : BindOk "top" "Ratio.top" s_Ratio_top ["self"] := fun _ _ _ _ _ _ us hl => match us, hl with | [_], _ => rfl
abbrev s_Ratio_bottom : Stmt := inClass (top 7) 4
abbrev N_Ratio_bottom : List Str := ["self"]
theorem sc_Ratio_bottom : FnScope N_Ratio_bottom ["self"] (defScope s_Ratio_bottom) := ⟨rfl, rfl, rfl, by decide +kernel, rfl, by decide +kernel, by decide +kernel⟩
theorem bd_Ratio_bottom : BindOk "bottom" "Ratio.bottom" s_Ratio_bottom ["self"] := fun _ _ _ _ _ _ us hl => match us, hl with | [_], _ => rfl
abbrev s_Ratio_add : Stmt := inClass (top 7) 5
abbrev N_Ratio_add : List Str := ["self", "other", "second"]
theorem sc_Ratio_add : FnScope N_Ratio_add ["self", "other"] (defScope s_Ratio_add) := ⟨rfl, rfl, rfl, by decide +kernel, rfl, by decide +kernel, by decide +kernel⟩
theorem bd_Ratio_add : BindOk "__add__" "Ratio.__add__" s_Ratio_add ["self", "other"] := fun _ _ _ _ _ _ us hl => match us, hl with | [_, _], _ => rfl
abbrev s_Ratio_radd : Stmt := inClass (top 7) 6
abbrev N_Ratio_radd : List Str := ["self", "other"]
theorem sc_Ratio_radd : FnScope N_Ratio_radd ["self", "other"] (defScope s_Ratio_radd) := ⟨rfl, rfl, rfl, by decide +kernel, rfl, by decide +kernel, by decide +kernel⟩
theorem bd_Ratio_radd : BindOk "__radd__" "Ratio.__radd__" s_Ratio_radd ["self", "other"] := fun _ _ _ _ _ _ us hl => match us, hl with | [_, _], _ => rfl
abbrev s_Ratio_sub : Stmt := inClass (top 7) 7
abbrev N_Ratio_sub : List Str := ["self", "other", "second"]
theorem sc_Ratio_sub : FnScope N_Ratio_sub ["self", "other"] (defScope s_Ratio_sub) := ⟨rfl, rfl, rfl, by decide +kernel, rfl, by decide +kernel, by decide +kernel⟩
theorem bd_Ratio_sub : BindOk "__sub__" "Ratio.__sub__" s_Ratio_sub ["self", "other"] := fun _ _ _ _ _ _ us hl => match us, hl with | [_, _], _ => rfl
abbrev s_Ratio_rsub : Stmt := inClass (top 7) 8
abbrev N_Ratio_rsub : List Str := ["self", "other"]
theorem sc_Ratio_rsub : FnScope N_Ratio_rsub ["self", "other"] (defScope s_Ratio_rsub) := ⟨rfl, rfl, rfl, by decide +kernel, rfl, by decide +kernel, by decide +kernel⟩
theorem bd_Ratio_rsub : BindOk "__rsub__" "Ratio.__rsub__" s_Ratio_rsub ["self", "other"] := fun _ _ _ _ _ _ us hl => match us, hl with | [_, _], _ => rfl
abbrev s_Ratio_mul : Stmt := inClass (top 7) 9
abbrev N_Ratio_mul : List Str := ["self", "other", "second"]
theorem sc_Ratio_mul : FnScope N_Ratio_mul ["self", "other"] (defScope s_Ratio_mul) := ⟨rfl, rfl, rfl, by decide +kernel, rfl, by decide +kernel, by decide +kernel⟩
theorem bd_Ratio_mul : BindOk "__mul__" "Ratio.__mul__" s_Ratio_mul ["self", "other"] := fun _ _ _ _ _ _ us hl => match us, hl with | [_, _], _ => rfl
abbrev s_Ratio_rmul : Stmt := inClass (top 7) 10
abbrev N_Ratio_rmul : List Str := ["self", "other"]
theorem sc_Ratio_rmul : FnScope N_Ratio_rmul ["self", "other"] (defScope s_Ratio_rmul) := ⟨rfl, rfl, rfl, by decide +kernel, rfl, by decide +kernel, by decide +kernel⟩
theorem bd_Ratio_rmul : BindOk "__rmul__" "Ratio.__rmul__" s_Ratio_rmul ["self", "other"] := fun _ _ _ _ _ _ us hl => match us, hl with | [_, _], _ => rfl
abbrev s_Ratio_floordiv : Stmt := inClass (top 7) 11
abbrev N_Ratio_floordiv : List Str := ["self", "other"]
theorem sc_Ratio_floordiv : FnScope N_Ratio_floordiv ["self", "other"] (defScope s_Ratio_floordiv) := ⟨rfl, rfl, rfl, by decide +kernel, rfl, by decide +kernel, by decide +kernel⟩
theorem bd_Ratio_floordiv : BindOk "__floordiv__" "Ratio.__floordiv__" s_Ratio_floordiv ["self", "other"] := fun _ _ _ _ _ _ us hl => match us, hl with | [_, _], _ => rfl
abbrev s_Ratio_rfloordiv : Stmt := inClass (top 7) 12
abbrev N_Ratio_rfloordiv : List Str := ["self", "other"]
theorem sc_Ratio_rfloordiv : FnScope N_Ratio_rfloordiv ["self", "other"] (defScope s_Ratio_rfloordiv) := ⟨rfl, rfl, rfl, by decide +kernel, rfl, by decide +kernel, by decide +kernel⟩
theorem bd_Ratio_rfloordiv : BindOk "__rfloordiv__" "Ratio.__rfloordiv__" s_Ratio_rfloordiv ["self", "other"] := fun _ _ _ _ _ _ us hl => match us, hl with | [_, _], _ => rfl
abbrev s_Ratio_mod : Stmt := inClass (top 7) 13
abbrev N_Ratio_mod : List Str := ["self", "other"]
theorem sc_Ratio_mod : FnScope N_Ratio_mod ["self", "other"] (defScope s_Ratio_mod) := ⟨rfl, rfl, rfl, by decide +kernel, rfl, by decide +kernel, by decide +kernel⟩
theorem bd_Ratio_mod : BindOk "__mod__" "Ratio.__mod__" s_Ratio_mod ["self", "other"] := fun _ _ _ _ _ _ us hl => match us, hl with | [_, _], _ => rfl
abbrev s_Ratio_rmod : Stmt := inClass (top 7) 14
abbrev N_Ratio_rmod : List Str := ["self", "other"]
theorem sc_Ratio_rmod : FnScope N_Ratio_rmod ["self", "other"] (defScope s_Ratio_rmod) := ⟨rfl, rfl, rfl, by decide +kernel, rfl, by decide +kernel, by decide +kernel⟩
theorem bd_Ratio_rmod : BindOk "__rmod__" "Ratio.__rmod__" s_Ratio_rmod ["self", "other"] := fun _ _ _ _ _ _ us hl => match us, hl with | [_, _], _ => rfl
abbrev s_Ratio_neg : Stmt := inClass (top 7) 15
abbrev N_Ratio_neg : List Str := ["self"]
theorem sc_Ratio_neg : FnScope N_Ratio_neg ["self"] (defScope s_Ratio_neg) := ⟨rfl, rfl, rfl, by decide +kernel, rfl, by decide +kernel, by decide +kernel⟩
theorem bd_Ratio_neg : BindOk "__neg__" "Ratio.__neg__" s_Ratio_neg ["self"] := fun _ _ _ _ _ _ us hl => match us, hl with | [_], _ => rfl
abbrev s_Ratio_abs : Stmt := inClass (top 7) 16
abbrev N_Ratio_abs : List Str := ["self"]
theorem sc_Ratio_abs : FnScope N_Ratio_abs ["self"] (defScope s_Ratio_abs) := ⟨rfl, rfl, rfl, by decide +kernel, rfl, by decide +kernel, by decide +kernel⟩
theorem bd_Ratio_abs : BindOk "__abs__" "Ratio.__abs__" s_Ratio_abs ["self"] := fun _ _ _ _ _ _ us hl => match us, hl with | [_], _ => rfl
abbrev s_Ratio_over : Stmt := inClass (top 7) 17
abbrev N_Ratio_over : List Str := ["self", "other", "second"]
theorem sc_Ratio_over : FnScope N_Ratio_over ["self", "other"] (defScope s_Ratio_over) := ⟨rfl, rfl, rfl, by decide +kernel, rfl, by decide +kernel, by decide +kernel⟩
theorem bd_Ratio_over : BindOk "over" "Ratio.over" s_Ratio_over ["self", "other"] := fun _ _ _ _ _ _ us hl => match us, hl with | [_, _], _ => rfl
abbrev s_Ratio_compare : Stmt := inClass (top 7) 18
abbrev N_Ratio_compare : List Str := ["self", "other", "second", "left", "right"]
theorem sc_Ratio_compare : FnScope N_Ratio_compare ["self", "other"] (defScope s_Ratio_compare) := ⟨rfl, rfl, rfl, by decide +kernel, rfl, by decide +kernel, by decide +kernel⟩
theorem bd_Ratio_compare : BindOk "compare" "Ratio.compare" s_Ratio_compare ["self", "other"] := fun _ _ _ _ _ _ us hl => match us, hl with | [_, _], _ => rfl
abbrev s_Ratio_floor : Stmt := inClass (top 7) 19
abbrev N_Ratio_floor : List Str := ["self"]
theorem sc_Ratio_floor : FnScope N_Ratio_floor ["self"] (defScope s_Ratio_floor) := ⟨rfl, rfl, rfl, by decide +kernel, rfl, by decide +kernel, by decide +kernel⟩
theorem bd_Ratio_floor : BindOk "floor" "Ratio.floor" s_Ratio_floor ["self"] := fun _ _ _ _ _ _ us hl => match us, hl with | [_], _ => rfl
abbrev s_Ratio_ceiling : Stmt := inClass (top 7) 20
abbrev N_Ratio_ceiling : List Str := ["self"]
theorem sc_Ratio_ceiling : FnScope N_Ratio_ceiling ["self"] (defScope s_Ratio_ceiling) := ⟨rfl, rfl, rfl, by decide +kernel, rfl, by decide +kernel, by decide +kernel⟩
theorem bd_Ratio_ceiling : BindOk "ceiling" "Ratio.ceiling" s_Ratio_ceiling ["self"] := fun _ _ _ _ _ _ us hl => match us, hl with | [_], _ => rfl
abbrev s_Ratio_eq : Stmt := inClass (top 7) 21
abbrev N_Ratio_eq : List Str := ["self", "other"]
theorem sc_Ratio_eq : FnScope N_Ratio_eq ["self", "other"] (defScope s_Ratio_eq) := ⟨rfl, rfl, rfl, by decide +kernel, rfl, by decide +kernel, by decide +kernel⟩
theorem bd_Ratio_eq : BindOk "__eq__" "Ratio.__eq__" s_Ratio_eq ["self", "other"] := fun _ _ _ _ _ _ us hl => match us, hl with | [_, _], _ => rfl
abbrev s_Ratio_str : Stmt := inClass (top 7) 22
abbrev N_Ratio_str : List Str := ["self"]
theorem sc_Ratio_str : FnScope N_Ratio_str ["self"] (defScope s_Ratio_str) := ⟨rfl, rfl, rfl, by decide +kernel, rfl, by decide +kernel, by decide +kernel⟩
theorem bd_Ratio_str : BindOk "__str__" "Ratio.__str__" s_Ratio_str ["self"] := fun _ _ _ _ _ _ us hl => match us, hl with | [_], _ => rfl
abbrev s_Ratio_repr : Stmt := inClass (top 7) 23
abbrev N_Ratio_repr : List Str := ["self"]
theorem sc_Ratio_repr : FnScope N_Ratio_repr ["self"] (defScope s_Ratio_repr) := ⟨rfl, rfl, rfl, by decide +kernel, rfl, by decide +kernel, by decide +kernel⟩
theorem bd_Ratio_repr : BindOk "__repr__" "Ratio.__repr__" s_Ratio_repr ["self"] := fun _ _ _ _ _ _ us hl => match us, hl with | [_], _ => rfl
abbrev s_written : Stmt := top 8
abbrev N_written : List Str := ["text", "number"]
theorem sc_written : FnScope N_written ["text"] (defScope s_written) := ⟨rfl, rfl, rfl, by decide +kernel, rfl, by decide +kernel, by decide +kernel⟩
theorem bd_written : BindOk "written" "written" s_written ["text"] := fun _ _ _ _ _ _ us hl => match us, hl with | [_], _ => rfl
abbrev s_loosely_read : Stmt := top 9
abbrev N_loosely_read : List Str := ["text", "top", "stroke", "bottom"]
theorem sc_loosely_read : FnScope N_loosely_read ["text"] (defScope s_loosely_read) := ⟨rfl, rfl, rfl, by decide +kernel, rfl, by decide +kernel, by decide +kernel⟩
theorem bd_loosely_read : BindOk "loosely_read" "loosely_read" s_loosely_read ["text"] := fun _ _ _ _ _ _ us hl => match us, hl with | [_], _ => rfl
abbrev s_is_plain_count : Stmt := top 10
abbrev N_is_plain_count : List Str := ["text", "sign"]
theorem sc_is_plain_count : FnScope N_is_plain_count ["text"] (defScope s_is_plain_count) := ⟨rfl, rfl, rfl, by decide +kernel, rfl, by decide +kernel, by decide +kernel⟩
theorem bd_is_plain_count : BindOk "is_plain_count" "is_plain_count" s_is_plain_count ["text"] := fun _ _ _ _ _ _ us hl => match us, hl with | [_], _ => rfl
abbrev s_law_pot : Stmt := top 12
abbrev N_law_pot : List Str := ["_law_script", "_law_k", "_law_cell"]
theorem sc_law_pot : FnScope N_law_pot ["_law_script", "_law_k"] (defScope s_law_pot) := ⟨rfl, rfl, rfl, by decide +kernel, rfl, by decide +kernel, by decide +kernel⟩
theorem bd_law_pot : BindOk "_law_pot" "_law_pot" s_law_pot ["_law_script", "_law_k"] := fun _ _ _ _ _ _ us hl => match us, hl with | [_, _], _ => rfl
abbrev s_law_draw : Stmt := top 13
abbrev N_law_draw : List Str := ["_law_pot_here", "_law_size", "_law_digit"]
theorem sc_law_draw : FnScope N_law_draw ["_law_pot_here", "_law_size"] (defScope s_law_draw) := ⟨rfl, rfl, rfl, by decide +kernel, rfl, by decide +kernel, by decide +kernel⟩
theorem bd_law_draw : BindOk "_law_draw" "_law_draw" s_law_draw ["_law_pot_here", "_law_size"] := fun _ _ _ _ _ _ us hl => match us, hl with | [_, _], _ => rfl
abbrev s_law_pick : Stmt := top 14
abbrev N_law_pick : List Str := ["_law_pot_here", "_law_some"]
theorem sc_law_pick : FnScope N_law_pick ["_law_pot_here", "_law_some"] (defScope s_law_pick) := ⟨rfl, rfl, rfl, by decide +kernel, rfl, by decide +kernel, by decide +kernel⟩
theorem bd_law_pick : BindOk "_law_pick" "_law_pick" s_law_pick ["_law_pot_here", "_law_some"] := fun _ _ _ _ _ _ us hl => match us, hl with | [_, _], _ => rfl
abbrev s_law_frac : Stmt := top 15
abbrev N_law_frac : List Str := ["_law_up", "_law_down", "_law_this", "_law_mate"]
theorem sc_law_frac : FnScope N_law_frac ["_law_up", "_law_down"] (defScope s_law_frac) := ⟨rfl, rfl, rfl, by decide +kernel, rfl, by decide +kernel, by decide +kernel⟩
theorem bd_law_frac : BindOk "_law_frac" "_law_frac" s_law_frac ["_law_up", "_law_down"] := fun _ _ _ _ _ _ us hl => match us, hl with | [_, _], _ => rfl
abbrev s_law_drawn : Stmt := top 16
abbrev N_law_drawn : List Str := ["_law_pot_here", "_law_far", "_law_deep"]
theorem sc_law_drawn : FnScope N_law_drawn ["_law_pot_here"] (defScope s_law_drawn) := ⟨rfl, rfl, rfl, by decide +kernel, rfl, by decide +kernel, by decide +kernel⟩
theorem bd_law_drawn : BindOk "_law_drawn" "_law_drawn" s_law_drawn ["_law_pot_here"] := fun _ _ _ _ _ _ us hl => match us, hl with | [_], _ => rfl
abbrev s_law_text : Stmt := top 17
abbrev N_law_text : List Str := ["_law_some"]
theorem sc_law_text : FnScope N_law_text ["_law_some"] (defScope s_law_text) := ⟨rfl, rfl, rfl, by decide +kernel, rfl, by decide +kernel, by decide +kernel⟩
theorem bd_law_text : BindOk "_law_text" "_law_text" s_law_text ["_law_some"] := fun _ _ _ _ _ _ us hl => match us, hl with | [_], _ => rfl
abbrev s_law_made : Stmt := top 18
abbrev N_law_made : List Str := ["_law_pot_here", "_law_some", "_law_scale", "_law_way"]
theorem sc_law_made : FnScope N_law_made ["_law_pot_here", "_law_some"] (defScope s_law_made) := ⟨rfl, rfl, rfl, by decide +kernel, rfl, by decide +kernel, by decide +kernel⟩
theorem bd_law_made : BindOk "_law_made" "_law_made" s_law_made ["_law_pot_here", "_law_some"] := fun _ _ _ _ _ _ us hl => match us, hl with | [_, _], _ => rfl
abbrev s_law_side : Stmt := top 19
abbrev N_law_side : List Str := ["_law_pot_here", "_law_some"]
theorem sc_law_side : FnScope N_law_side ["_law_pot_here", "_law_some"] (defScope s_law_side) := ⟨rfl, rfl, rfl, by decide +kernel, rfl, by decide +kernel, by decide +kernel⟩
theorem bd_law_side : BindOk "_law_side" "_law_side" s_law_side ["_law_pot_here", "_law_some"] := fun _ _ _ _ _ _ us hl => match us, hl with | [_, _], _ => rfl
abbrev s_law_plus : Stmt := top 20
abbrev N_law_plus : List Str := ["_law_this", "_law_mate"]
theorem sc_law_plus : FnScope N_law_plus ["_law_this", "_law_mate"] (defScope s_law_plus) := ⟨rfl, rfl, rfl, by decide +kernel, rfl, by decide +kernel, by decide +kernel⟩
theorem bd_law_plus : BindOk "_law_plus" "_law_plus" s_law_plus ["_law_this", "_law_mate"] := fun _ _ _ _ _ _ us hl => match us, hl with | [_, _], _ => rfl
abbrev s_law_less : Stmt := top 21
abbrev N_law_less : List Str := ["_law_this", "_law_mate"]
theorem sc_law_less : FnScope N_law_less ["_law_this", "_law_mate"] (defScope s_law_less) := ⟨rfl, rfl, rfl, by decide +kernel, rfl, by decide +kernel, by decide +kernel⟩
theorem bd_law_less : BindOk "_law_less" "_law_less" s_law_less ["_law_this", "_law_mate"] := fun _ _ _ _ _ _ us hl => match us, hl with | [_, _], _ => rfl
abbrev s_law_times : Stmt := top 22
abbrev N_law_times : List Str := ["_law_this", "_law_mate"]
theorem sc_law_times : FnScope N_law_times ["_law_this", "_law_mate"] (defScope s_law_times) := ⟨rfl, rfl, rfl, by decide +kernel, rfl, by decide +kernel, by decide +kernel⟩
theorem bd_law_times : BindOk "_law_times" "_law_times" s_law_times ["_law_this", "_law_mate"] := fun _ _ _ _ _ _ us hl => match us, hl with | [_, _], _ => rfl
abbrev s_law_floor : Stmt := top 23
abbrev N_law_floor : List Str := ["_law_this", "_law_mate"]
theorem sc_law_floor : FnScope N_law_floor ["_law_this", "_law_mate"] (defScope s_law_floor) := ⟨rfl, rfl, rfl, by decide +kernel, rfl, by decide +kernel, by decide +kernel⟩
theorem bd_law_floor : BindOk "_law_floor" "_law_floor" s_law_floor ["_law_this", "_law_mate"] := fun _ _ _ _ _ _ us hl => match us, hl with | [_, _], _ => rfl
abbrev s_law_rest : Stmt := top 24
abbrev N_law_rest : List Str := ["_law_this", "_law_mate"]
theorem sc_law_rest : FnScope N_law_rest ["_law_this", "_law_mate"] (defScope s_law_rest) := ⟨rfl, rfl, rfl, by decide +kernel, rfl, by decide +kernel, by decide +kernel⟩
theorem bd_law_rest : BindOk "_law_rest" "_law_rest" s_law_rest ["_law_this", "_law_mate"] := fun _ _ _ _ _ _ us hl => match us, hl with | [_, _], _ => rfl
abbrev s_law_told : Stmt := top 25
abbrev N_law_told : List Str := ["_law_some", "_law_made_here"]
theorem sc_law_told : FnScope N_law_told ["_law_some"] (defScope s_law_told) := ⟨rfl, rfl, rfl, by decide +kernel, rfl, by decide +kernel, by decide +kernel⟩
theorem bd_law_told : BindOk "_law_told" "_law_told" s_law_told ["_law_some"] := fun _ _ _ _ _ _ us hl => match us, hl with | [_], _ => rfl
abbrev s_law_are_integers : Stmt := top 26
abbrev N_law_are_integers : List Str := ["_law_some", "_law_made_here"]
theorem sc_law_are_integers : FnScope N_law_are_integers ["_law_some"] (defScope s_law_are_integers) := ⟨rfl, rfl, rfl, by decide +kernel, rfl, by decide +kernel, by decide +kernel⟩
theorem bd_law_are_integers : BindOk "_law_are_integers" "_law_are_integers" s_law_are_integers ["_law_some"] := fun _ _ _ _ _ _ us hl => match us, hl with | [_], _ => rfl
abbrev s_law_sums_right : Stmt := top 27
abbrev N_law_sums_right : List Str := ["_law_one", "_law_mate", "_law_this", "_law_near", "_law_told_here", "_law_due"]
theorem sc_law_sums_right : FnScope N_law_sums_right ["_law_one", "_law_mate", "_law_this", "_law_near"] (defScope s_law_sums_right) := ⟨rfl, rfl, rfl, by decide +kernel, rfl, by decide +kernel, by decide +kernel⟩
theorem bd_law_sums_right : BindOk "_law_sums_right" "_law_sums_right" s_law_sums_right ["_law_one", "_law_mate", "_law_this", "_law_near"] := fun _ _ _ _ _ _ us hl => match us, hl with | [_, _, _, _], _ => rfl
abbrev s_law_quotients_right : Stmt := top 28
abbrev N_law_quotients_right : List Str := ["_law_one", "_law_mate", "_law_this", "_law_near", "_law_floors", "_law_share"]
theorem sc_law_quotients_right : FnScope N_law_quotients_right ["_law_one", "_law_mate", "_law_this", "_law_near"] (defScope s_law_quotients_right) := ⟨rfl, rfl, rfl, by decide +kernel, rfl, by decide +kernel, by decide +kernel⟩
theorem bd_law_quotients_right : BindOk "_law_quotients_right" "_law_quotients_right" s_law_quotients_right ["_law_one", "_law_mate", "_law_this", "_law_near"] := fun _ _ _ _ _ _ us hl => match us, hl with | [_, _, _, _], _ => rfl
abbrev s_law_alone_right : Stmt := top 29
abbrev N_law_alone_right : List Str := ["_law_one", "_law_this", "_law_up", "_law_told_here"]
theorem sc_law_alone_right : FnScope N_law_alone_right ["_law_one", "_law_this"] (defScope s_law_alone_right) := ⟨rfl, rfl, rfl, by decide +kernel, rfl, by decide +kernel, by decide +kernel⟩
theorem bd_law_alone_right : BindOk "_law_alone_right" "_law_alone_right" s_law_alone_right ["_law_one", "_law_this"] := fun _ _ _ _ _ _ us hl => match us, hl with | [_, _], _ => rfl
abbrev s_law_order_right : Stmt := top 30
abbrev N_law_order_right : List Str := ["_law_one", "_law_mate", "_law_this", "_law_near", "_law_due", "_law_told_here", "_law_same", "_law_less_here", "_law_more"]
theorem sc_law_order_right : FnScope N_law_order_right ["_law_one", "_law_mate", "_law_this", "_law_near"] (defScope s_law_order_right) := ⟨rfl, rfl, rfl, by decide +kernel, rfl, by decide +kernel, by decide +kernel⟩
theorem bd_law_order_right : BindOk "_law_order_right" "_law_order_right" s_law_order_right ["_law_one", "_law_mate", "_law_this", "_law_near"] := fun _ _ _ _ _ _ us hl => match us, hl with | [_, _, _, _], _ => rfl
abbrev s_law_in_place_right : Stmt := top 31
abbrev N_law_in_place_right : List Str := ["_law_one", "_law_mate", "_law_this", "_law_near", "_law_kept", "_law_floor_here", "_law_rest_here"]
theorem sc_law_in_place_right : FnScope N_law_in_place_right ["_law_one", "_law_mate", "_law_this", "_law_near"] (defScope s_law_in_place_right) := ⟨rfl, rfl, rfl, by decide +kernel, rfl, by decide +kernel, by decide +kernel⟩
theorem bd_law_in_place_right : BindOk "_law_in_place_right" "_law_in_place_right" s_law_in_place_right ["_law_one", "_law_mate", "_law_this", "_law_near"] := fun _ _ _ _ _ _ us hl => match us, hl with | [_, _, _, _], _ => rfl
abbrev s_law_register_right : Stmt := top 32
abbrev N_law_register_right : List Str := ["_law_pot_here", "_law_this", "_law_held", "_law_turn", "_law_mate", "_law_near", "_law_way"]
theorem sc_law_register_right : FnScope N_law_register_right ["_law_pot_here"] (defScope s_law_register_right) := ⟨rfl, rfl, rfl, by decide +kernel, rfl, by decide +kernel, by decide +kernel⟩
theorem bd_law_register_right : BindOk "_law_register_right" "_law_register_right" s_law_register_right ["_law_pot_here"] := fun _ _ _ _ _ _ us hl => match us, hl with | [_], _ => rfl
abbrev s_law_right : Stmt := top 33
abbrev N_law_right : List Str := ["_law_pot_here", "_law_turn", "_law_again", "_law_this", "_law_near", "_law_one", "_law_mate"]
theorem sc_law_right : FnScope N_law_right ["_law_pot_here"] (defScope s_law_right) := ⟨rfl, rfl, rfl, by decide +kernel, rfl, by decide +kernel, by decide +kernel⟩
theorem bd_law_right : BindOk "_law_right" "_law_right" s_law_right ["_law_pot_here"] := fun _ _ _ _ _ _ us hl => match us, hl with | [_], _ => rfl
abbrev s_law : Stmt := top 34
abbrev N_law : List Str := ["_law_script", "_law_k"]
theorem sc_law : FnScope N_law ["_law_script"] (defScope s_law) := ⟨rfl, rfl, rfl, by decide +kernel, rfl, by decide +kernel, by decide +kernel⟩
theorem bd_law : BindOk "law" "law" s_law ["_law_script"] := fun _ _ _ _ _ _ us hl => match us, hl with | [_], _ => rfl
structure Ad where
  Ratio : Addr
structure Txt (K : PySem.W.Frag) (mg : Str → Option Value) (a : Ad) : Prop where
  o_Ratio : OwnC K mg "Ratio" a.Ratio
  n_Ratio_top : NoAttr K a.Ratio "_top"
  n_Ratio_bottom : NoAttr K a.Ratio "_bottom"
  d_Ratio_init : GI K a.Ratio "Ratio.__init__" s_Ratio_init [.int 1]
  d_Ratio_of : GS K a.Ratio "of" "Ratio.of" s_Ratio_of
  d_Ratio_read : GS K a.Ratio "read" "Ratio.read" s_Ratio_read
  d_Ratio_top : GP K a.Ratio "top" "Ratio.top" s_Ratio_top
  d_Ratio_bottom : GP K a.Ratio "bottom" "Ratio.bottom" s_Ratio_bottom
  d_Ratio_add : GM K a.Ratio "__add__" "Ratio.__add__" s_Ratio_add
  d_Ratio_radd : GM K a.Ratio "__radd__" "Ratio.__radd__" s_Ratio_radd
  d_Ratio_sub : GM K a.Ratio "__sub__" "Ratio.__sub__" s_Ratio_sub
  d_Ratio_rsub : GM K a.Ratio "__rsub__" "Ratio.__rsub__" s_Ratio_rsub
  d_Ratio_mul : GM K a.Ratio "__mul__" "Ratio.__mul__" s_Ratio_mul
  d_Ratio_rmul : GM K a.Ratio "__rmul__" "Ratio.__rmul__" s_Ratio_rmul
  d_Ratio_floordiv : GM K a.Ratio "__floordiv__" "Ratio.__floordiv__" s_Ratio_floordiv
  d_Ratio_rfloordiv : GM K a.Ratio "__rfloordiv__" "Ratio.__rfloordiv__" s_Ratio_rfloordiv
  d_Ratio_mod : GM K a.Ratio "__mod__" "Ratio.__mod__" s_Ratio_mod
  d_Ratio_rmod : GM K a.Ratio "__rmod__" "Ratio.__rmod__" s_Ratio_rmod
  d_Ratio_neg : GM K a.Ratio "__neg__" "Ratio.__neg__" s_Ratio_neg
  d_Ratio_abs : GM K a.Ratio "__abs__" "Ratio.__abs__" s_Ratio_abs
  d_Ratio_over : GM K a.Ratio "over" "Ratio.over" s_Ratio_over
  d_Ratio_compare : GM K a.Ratio "compare" "Ratio.compare" s_Ratio_compare
  d_Ratio_floor : GM K a.Ratio "floor" "Ratio.floor" s_Ratio_floor
  d_Ratio_ceiling : GM K a.Ratio "ceiling" "Ratio.ceiling" s_Ratio_ceiling
  d_Ratio_eq : GM K a.Ratio "__eq__" "Ratio.__eq__" s_Ratio_eq
  d_Ratio_str : GM K a.Ratio "__str__" "Ratio.__str__" s_Ratio_str
  d_Ratio_repr : GM K a.Ratio "__repr__" "Ratio.__repr__" s_Ratio_repr
  d_written : GF K mg "written" s_written
  d_loosely_read : GF K mg "loosely_read" s_loosely_read
  d_is_plain_count : GF K mg "is_plain_count" s_is_plain_count
  d_law_pot : GF K mg "_law_pot" s_law_pot
  d_law_draw : GF K mg "_law_draw" s_law_draw
  d_law_pick : GF K mg "_law_pick" s_law_pick
  d_law_frac : GF K mg "_law_frac" s_law_frac
  d_law_drawn : GF K mg "_law_drawn" s_law_drawn
  d_law_text : GF K mg "_law_text" s_law_text
  d_law_made : GF K mg "_law_made" s_law_made
  d_law_side : GF K mg "_law_side" s_law_side
  d_law_plus : GF K mg "_law_plus" s_law_plus
  d_law_less : GF K mg "_law_less" s_law_less
  d_law_times : GF K mg "_law_times" s_law_times
  d_law_floor : GF K mg "_law_floor" s_law_floor
  d_law_rest : GF K mg "_law_rest" s_law_rest
  d_law_told : GF K mg "_law_told" s_law_told
  d_law_are_integers : GF K mg "_law_are_integers" s_law_are_integers
  d_law_sums_right : GF K mg "_law_sums_right" s_law_sums_right
  d_law_quotients_right : GF K mg "_law_quotients_right" s_law_quotients_right
  d_law_alone_right : GF K mg "_law_alone_right" s_law_alone_right
  d_law_order_right : GF K mg "_law_order_right" s_law_order_right
  d_law_in_place_right : GF K mg "_law_in_place_right" s_law_in_place_right
  d_law_register_right : GF K mg "_law_register_right" s_law_register_right
  d_law_right : GF K mg "_law_right" s_law_right
  d_law : GF K mg "law" s_law
  x_Ratio_ne : PySem.W.findIn K (.ref a.Ratio) "__ne__" = some (some (.builtin "object.__ne__"))
  x_Ratio_iadd : PySem.W.findIn K (.ref a.Ratio) "__iadd__" = some none
  x_Ratio_isub : PySem.W.findIn K (.ref a.Ratio) "__isub__" = some none
  x_Ratio_imul : PySem.W.findIn K (.ref a.Ratio) "__imul__" = some none
  x_Ratio_ifloordiv : PySem.W.findIn K (.ref a.Ratio) "__ifloordiv__" = some none
  x_Ratio_imod : PySem.W.findIn K (.ref a.Ratio) "__imod__" = some none
  b_abs : mg "abs" = none
  b_len : mg "len" = none
  b_divmod : mg "divmod" = none
  b_max : mg "max" = none
  b_min : mg "min" = none
  b_all : mg "all" = none
  b_int : mg "int" = none
  b_str : mg "str" = none
  b_bool : mg "bool" = none
  b_isinstance : mg "isinstance" = none
  b_range : mg "range" = none
  b_repr : mg "repr" = none
  g_gcd : mg "gcd" = some (.builtin "math.gcd")
end Lw

namespace Ly
open PySem PySem.Spec PyProof.Rows L2
/-! ### the pot of a law, and what stays while it is drawn from -/
structure PotOk (a b : Int) : Prop where
  ha : 0 ≤ a
  hb : 0 ≤ b
  hc : b < 2147483648
def Pot (H : Hp) (p : Addr) : Prop := ∃ a b, H p = some (.lst [.int a, .int b]) ∧ PotOk a b
structure Dr (p : Addr) (H H' : Hp) : Prop where
  keep : ∀ q o, q ≠ p → H q = some o → H' q = some o
  pot : Pot H p
  pot' : Pot H' p
theorem Dr.refl {p : Addr} {H : Hp} (h : Pot H p) : Dr p H H := ⟨fun _ _ _ e => e, h, h⟩
theorem Dr.trans {p : Addr} {H H1 H2 : Hp} (a : Dr p H H1) (b : Dr p H1 H2) : Dr p H H2 := ⟨fun q o n e => b.keep q o n (a.keep q o n e), a.pot, b.pot'⟩
theorem Pot.same {p : Addr} {H H' : Hp} (s : Same H H') (h : Pot H p) : Pot H' p := by
  obtain ⟨a, b, e, o⟩ := h
  exact ⟨a, b, s _ _ e, o⟩
theorem Dr.of {p : Addr} {H H' : Hp} (s : Same H H') (h : Pot H p) : Dr p H H' := ⟨fun q o _ e => s q o e, h, h.same s⟩
theorem Dr.same {p : Addr} {H H1 H2 : Hp} (a : Dr p H H1) (s : Same H1 H2) : Dr p H H2 := a.trans (.of s a.pot')
theorem Dr.free {p : Addr} {H H' : Hp} (k : Dr p H H') {l : Addr} (h : H' l = none) : H l = none := by
  cases q : H l with
  | none => rfl
  | some o =>
    by_cases e : l = p
    · subst e
      obtain ⟨_, _, z, _⟩ := k.pot'
      rw [z] at h
      cases h
    · rw [k.keep l o e q] at h
      cases h
theorem Dr.ne {p : Addr} {H H' : Hp} (k : Dr p H H') {q : Addr} {o : HO} (h : H q = some o) (n : ∀ a b, o ≠ .lst [.int a, .int b]) : q ≠ p := by
  intro z
  subst z
  obtain ⟨a, b, e, _⟩ := k.pot
  rw [e] at h
  exact n a b (Option.some.inj h).symm
theorem Dr.tup {p : Addr} {H H' : Hp} (k : Dr p H H') {q : Addr} {xs : List V} (h : H q = some (.tup xs)) : H' q = some (.tup xs) := k.keep q _ (k.ne h fun _ _ z => by cases z) h
theorem Dr.ins {p : Addr} {H H' : Hp} (k : Dr p H H') {q C dx : Addr} {fs : List (Str × V)} (h : H q = some (.ins C dx fs)) : H' q = some (.ins C dx fs) := k.keep q _ (k.ne h fun _ _ z => by cases z) h
theorem RatAt.pk {p : Addr} {C : Addr} {H H' : Hp} {a : Addr} {t b : Int} (k : Dr p H H') (r : RatAt C H a t b) : RatAt C H' a t b := by
  obtain ⟨dx, e⟩ := r
  exact ⟨dx, k.ins e⟩
theorem Num.pk {p : Addr} {C : Addr} {H H' : Hp} {v : V} {t b : Int} (k : Dr p H H') (r : Num C H v t b) : Num C H' v t b := by
  rcases r with r | ⟨a, e, r⟩
  · exact .inl r
  · exact .inr ⟨a, e, r.pk k⟩
/-- a law's own fraction: a tuple of two ints -/
def FracAt (H : Hp) (a : Addr) (t b : Int) : Prop := H a = some (.tup [.int t, .int b])
theorem FracAt.same {H H' : Hp} {a : Addr} {t b : Int} (s : Same H H') (r : FracAt H a t b) : FracAt H' a t b := s _ _ r
theorem FracAt.pk {p : Addr} {H H' : Hp} {a : Addr} {t b : Int} (k : Dr p H H') (r : FracAt H a t b) : FracAt H' a t b := k.tup r
theorem fresh_ne {p q : Addr} {H : Hp} (h : Pot H p) (n : H q = none) : q ≠ p := by
  intro z
  subst z
  obtain ⟨_, _, e, _⟩ := h
  rw [e] at n
  cases n
/-- a new object, as a heap of its own -/
theorem i_new {H : Hp} {o : HO} {R : V → Hp → Prop} (q : ∀ p H', H p = none → H' p = some o → Same H H' → R (.ref p) H') : ∀ p, H p = none → R (.ref p) (upd H p o) := fun p n =>
  q p _ n upd_same fun b u e => by
    rw [upd_ne (ne_of_none e n)]
    exact e
section
variable {H : Hp} {Q : VK} {E : XK} {K : PySem.W.Frag} {σ : L2.St} {t : TA} {i j : Int}
def rMkT (xs : List V) (H : Hp) (Q : VK) : Prop := xs.length ≤ sizeLine ∧ ∀ p, H p = none → Q (.ref p) (upd H p (.tup xs))
def rMkL (xs : List V) (H : Hp) (Q : VK) : Prop := xs.length ≤ sizeLine ∧ ∀ p, H p = none → Q (.ref p) (upd H p (.lst xs))
theorem i_tup (q : t σ H fun xs H1 => rMkT xs H1 Q) : tTup t σ H Q := q
theorem i_lst (q : t σ H fun xs H1 => rMkL xs H1 Q) : tLst t σ H Q := q
/-- the ends of a display -/
theorem i_mkT {xs : List V} (h : xs.length ≤ 1000) (q : ∀ p H', H p = none → H' p = some (.tup xs) → Same H H' → Q (.ref p) H') : rMkT xs H Q := ⟨Nat.le_of_lt (small1000 h), i_new q⟩
theorem i_mkL {xs : List V} (h : xs.length ≤ 1000) (q : ∀ p H', H p = none → H' p = some (.lst xs) → Same H H' → Q (.ref p) H') : rMkL xs H Q := ⟨Nat.le_of_lt (small1000 h), i_new q⟩
theorem i_mkT2 {v w : V} (q : ∀ p H', H p = none → H' p = some (.tup [v, w]) → Same H H' → Q (.ref p) H') : rMkT [v, w] H Q := i_mkT (by show 2 ≤ 1000; decide) q
theorem i_mkL1 {v : V} (q : ∀ p H', H p = none → H' p = some (.lst [v]) → Same H H' → Q (.ref p) H') : rMkL [v] H Q := i_mkL (by show 1 ≤ 1000; decide) q
theorem i_mkL2 {v w : V} (q : ∀ p H', H p = none → H' p = some (.lst [v, w]) → Same H H' → Q (.ref p) H') : rMkL [v, w] H Q := i_mkL (by show 2 ≤ 1000; decide) q
theorem i_mkL3 {v w x : V} (q : ∀ p H', H p = none → H' p = some (.lst [v, w, x]) → Same H H' → Q (.ref p) H') : rMkL [v, w, x] H Q := i_mkL (by show 3 ≤ 1000; decide) q
theorem i_mkL4 {v w x y : V} (q : ∀ p H', H p = none → H' p = some (.lst [v, w, x, y]) → Same H H' → Q (.ref p) H') : rMkL [v, w, x, y] H Q := i_mkL (by show 4 ≤ 1000; decide) q
theorem i_mkL5 {v w x y z : V} (q : ∀ p H', H p = none → H' p = some (.lst [v, w, x, y, z]) → Same H H' → Q (.ref p) H') : rMkL [v, w, x, y, z] H Q := i_mkL (by show 5 ≤ 1000; decide) q
theorem i_mkL6 {v w x y z u : V} (q : ∀ p H', H p = none → H' p = some (.lst [v, w, x, y, z, u]) → Same H H' → Q (.ref p) H') : rMkL [v, w, x, y, z, u] H Q := i_mkL (by show 6 ≤ 1000; decide) q
def spDraw : Sp := fun vs H Q _ => ∃ (p : Addr) (n : Int), vs = [.ref p, .int n] ∧ Pot H p ∧ 0 < n ∧ Sz 4000 n ∧ ∀ d H', 0 ≤ d → d < n → Dr p H H' → Q (.int d) H'
theorem i_draw {p : Addr} {n : Int} (h : Pot H p) (h0 : 0 < n) (z : Sz 4000 n) (q : ∀ d H', 0 ≤ d → d < n → Dr p H H' → Q (.int d) H') : spDraw [.ref p, .int n] H Q E := ⟨p, n, rfl, h, h0, z, q⟩
def spPick : Sp := fun vs H Q _ => ∃ (p s : Addr) (xs : List V), vs = [.ref p, .ref s] ∧ Pot H p ∧ s ≠ p ∧ H s = some (.lst xs) ∧ xs ≠ [] ∧ xs.length ≤ 1000 ∧ ∀ x H', x ∈ xs → Dr p H H' → Q x H'
theorem i_pick {p s : Addr} {xs : List V} (h : Pot H p) (hs : s ≠ p) (e : H s = some (.lst xs)) (n : xs ≠ []) (l : xs.length ≤ 1000) (q : ∀ x H', x ∈ xs → Dr p H H' → Q x H') : spPick [.ref p, .ref s] H Q E := ⟨p, s, xs, rfl, h, hs, e, n, l, q⟩
/-- a new fraction -/
def pF (t b : Int) (H : Hp) (Q : VK) : Prop := ∀ r H', H r = none → Same H H' → FracAt H' r t b → Q (.ref r) H'
def spFrac : Sp := fun vs H Q _ => ∃ u d : Int, vs = [.int u, .int d] ∧ d ≠ 0 ∧ Sz 8900 u ∧ Sz 8900 d ∧ pF (Nu u d) (De u d) H Q
theorem i_frac {u d : Int} (h : d ≠ 0) (z1 : Sz 8900 u) (z2 : Sz 8900 d) (q : pF (Nu u d) (De u d) H Q) : spFrac [.int u, .int d] H Q E := ⟨u, d, rfl, h, z1, z2, q⟩
theorem pF_same {t b : Int} {H' : Hp} (s : Same H H') (q : pF t b H Q) : pF t b H' Q := fun r H2 n s2 f => q r H2 (s.free n) (s.trans s2) f
/-- of two fractions a new one -/
def spF2 (pre : Int → Int → Int → Int → Prop) (nu de : Int → Int → Int → Int → Int) : Sp := fun vs H Q _ => ∃ (x y : Addr) (t b t2 b2 : Int), vs = [.ref x, .ref y] ∧ FracAt H x t b ∧ FracAt H y t2 b2 ∧ Ok4 t b ∧ Ok4 t2 b2 ∧ pre t b t2 b2 ∧ pF (Nu (nu t b t2 b2) (de t b t2 b2)) (De (nu t b t2 b2) (de t b t2 b2)) H Q
theorem i_f2 {pre : Int → Int → Int → Int → Prop} {nu de : Int → Int → Int → Int → Int} {x y : Addr} {t b t2 b2 : Int} (h1 : FracAt H x t b) (h2 : FracAt H y t2 b2) (o : Ok4 t b) (o2 : Ok4 t2 b2) (p : pre t b t2 b2)
    (q : pF (Nu (nu t b t2 b2) (de t b t2 b2)) (De (nu t b t2 b2) (de t b t2 b2)) H Q) : spF2 pre nu de [.ref x, .ref y] H Q E := ⟨x, y, t, b, t2, b2, rfl, h1, h2, o, o2, p, q⟩
end
section
variable {H : Hp} {Q : VK} {K : PySem.W.Frag} {i j : Int} {p s : Addr} {xs ys : List V}
theorem i_dm (c : CDivP i j) (q : ∀ t H', H t = none → H' t = some (.tup [.int (i / j), .int (i % j)]) → Same H H' → Q (.ref t) H') : rDivmod [.int i, .int j] H Q := i_divmod c (i_new q)
theorem i_catL (h : H p = some (.lst xs)) (h' : H s = some (.lst ys)) (z : xs.length + ys.length ≤ 1000) (q : ∀ t H', H t = none → H' t = some (.lst (xs ++ ys)) → Same H H' → Q (.ref t) H') : rAddU (.ref p) (.ref s) H Q :=
  .inr (.inr ⟨p, s, xs, ys, rfl, rfl, h, h', Nat.le_of_lt (small1000 z), i_new q⟩)
theorem i_repL {n : Int} (h : H p = some (.lst xs)) (h1 : 0 ≤ n) (h2 : n ≤ 1000) (z : xs.length * n.toNat ≤ 1000) (q : ∀ t H', H t = none → H' t = some (.lst (List.replicate n.toNat xs).flatten) → Same H H' → Q (.ref t) H') : rMulU (.ref p) (.int n) H Q :=
  .inr ⟨p, n, xs, rfl, rfl, h, by omega, by omega, Nat.le_of_lt (small1000 z), i_new q⟩
end
section
variable {H : Hp} {Q : VK} {K : PySem.W.Frag} {a : Addr} {t b : Int}
theorem i_ix_f0 (h : FracAt H a t b) (q : Q (.int t) H) : rIx K (.ref a) (.int 0) H Q := i_ix_t (v := .int t) h rfl q
theorem i_ix_f1 (h : FracAt H a t b) (q : Q (.int b) H) : rIx K (.ref a) (.int 1) H Q := i_ix_t (v := .int b) h rfl q
end
theorem cdivp {i j : Int} (h : 0 < j) (h2 : Sz 4000 j) : CDivP i j := by
  refine ⟨h, ?_⟩
  have hl : j.natAbs.log2 < 4000 := PySem.Flt.log2_lt_of (by decide) h2
  show (decide ((if j == 0 then 0 else j.natAbs.log2 / 30 + 1) > 300) && _) = false
  rw [decide_eq_false]
  · rfl
  · split <;> omega
theorem Dr.mut {p q : Addr} {H H' : Hp} {o : HO} (k : Dr p H H') (h : H q = none) (n : q ≠ p) : Dr p H (upd H' q o) := by
  refine ⟨fun c u hc e => ?_, k.pot, ?_⟩
  · rw [upd_ne (ne_of_none e h)]
    exact k.keep c u hc e
  · obtain ⟨a, b, e, ok⟩ := k.pot'
    exact ⟨a, b, by rw [upd_ne (fun z => n z.symm)]; exact e, ok⟩
theorem sz_lit {n : Int} (h : n.natAbs < 2 ^ 64) : Sz 4000 n := sz_mono (n := 64) h (by decide)
section
variable {H : Hp} {Q : VK} {E : XK} {K : PySem.W.Frag} {C : Addr}
def spPot (K : PySem.W.Frag) : Sp := fun vs H Q _ => ∃ (s : Addr) (ns : List Int) (k : Int), vs = [.ref s, .int k] ∧ SqL K H s (ns.map V.int) ∧ 0 ≤ k ∧ k < 100 ∧ ∀ p H', H p = none → Same H H' → Pot H' p → Q (.ref p) H'
def spDrawn : Sp := fun vs H Q _ => ∃ p : Addr, vs = [.ref p] ∧ Pot H p ∧ ∀ r H' t b, H r = none → Dr p H H' → FracAt H' r t b → Lo t b → Sz 96 t → Sz 30 b → Q (.ref r) H'
theorem i_drawn {p : Addr} (h : Pot H p) (q : ∀ r H' t b, H r = none → Dr p H H' → FracAt H' r t b → Lo t b → Sz 96 t → Sz 30 b → Q (.ref r) H') : spDrawn [.ref p] H Q E := ⟨p, rfl, h, q⟩
def spText : Sp := fun vs H Q _ => ∃ (x : Addr) (t b : Int), vs = [.ref x] ∧ FracAt H x t b ∧ Sz 1900 t ∧ Sz 1900 b ∧ Q (.str (Rt t b)) H
theorem i_text {x : Addr} {t b : Int} (h : FracAt H x t b) (z1 : Sz 1900 t) (z2 : Sz 1900 b) (q : Q (.str (Rt t b)) H) : spText [.ref x] H Q E := ⟨x, t, b, rfl, h, z1, z2, q⟩
/-- read: of the text of a fraction in lowest terms -/
def spRead (C : Addr) : Sp := fun vs H Q _ => ∃ t b : Int, vs = [.str (Rt t b)] ∧ Lo t b ∧ Sz 600 t ∧ Sz 600 b ∧ ∀ r H', Same H H' → RatAt C H' r t b → Q (.ref r) H'
def spMade (C : Addr) : Sp := fun vs H Q _ => ∃ (p x : Addr) (t b : Int), vs = [.ref p, .ref x] ∧ Pot H p ∧ FracAt H x t b ∧ Lo t b ∧ Sz 600 t ∧ Sz 600 b ∧ ∀ r H', Dr p H H' → RatAt C H' r t b → Q (.ref r) H'
theorem i_made {p x : Addr} {t b : Int} (h : Pot H p) (f : FracAt H x t b) (l : Lo t b) (z1 : Sz 600 t) (z2 : Sz 600 b) (q : ∀ r H', Dr p H H' → RatAt C H' r t b → Q (.ref r) H') : spMade C [.ref p, .ref x] H Q E := ⟨p, x, t, b, rfl, h, f, l, z1, z2, q⟩
def spSide (C : Addr) : Sp := fun vs H Q _ => ∃ (p x : Addr) (t b : Int), vs = [.ref p, .ref x] ∧ Pot H p ∧ FracAt H x t b ∧ Lo t b ∧ Sz 600 t ∧ Sz 600 b ∧ ∀ v H', Dr p H H' → Num C H' v t b → Q v H'
theorem i_side {p x : Addr} {t b : Int} (h : Pot H p) (f : FracAt H x t b) (l : Lo t b) (z1 : Sz 600 t) (z2 : Sz 600 b) (q : ∀ v H', Dr p H H' → Num C H' v t b → Q v H') : spSide C [.ref p, .ref x] H Q E := ⟨p, x, t, b, rfl, h, f, l, z1, z2, q⟩
end
theorem Lo.scale {t b s : Int} (l : Lo t b) (hs : s ≠ 0) : Nu (t * s) (b * s) = t ∧ De (t * s) (b * s) = b := by
  have hb := l.pos
  have eg : G (t * s) (b * s) = (s.natAbs : Int) := by
    unfold G
    rw [Int.gcd_mul_right, l.one, Nat.one_mul]
  unfold Nu De
  rw [eg]
  by_cases hp : 0 < s
  · have e : (s.natAbs : Int) = s := by omega
    rw [e, if_pos (Int.mul_pos hb hp), if_pos (Int.mul_pos hb hp)]
    exact ⟨Int.mul_ediv_cancel t hs, Int.mul_ediv_cancel b hs⟩
  · have e : (s.natAbs : Int) = -s := by omega
    have n : ¬ 0 < b * s := by
      intro z
      have := Int.mul_neg_of_pos_of_neg hb (show s < 0 by omega)
      omega
    rw [e, if_neg n, if_neg n, ← Int.mul_neg, ← Int.mul_neg]
    exact ⟨Int.mul_ediv_cancel t (by omega), Int.mul_ediv_cancel b (by omega)⟩
end Ly

namespace Ly
open PySem PySem.Spec PyProof.Rows L2
/-! ### comprehensions -/
/-- all but lists stay -/
def NL (H H' : Hp) : Prop := ∀ q o, (∀ xs, o ≠ HO.lst xs) → H q = some o → H' q = some o
theorem NL.same {H H' : Hp} (s : Same H H') : NL H H' := fun q o _ e => s q o e
theorem NL.upd {H : Hp} {q : Addr} {xs ys : List V} (h : H q = some (.lst xs)) : NL H (upd H q (.lst ys)) := fun c o n e => by
  rw [upd_ne (fun z => by rw [z, h] at e; exact n xs (Option.some.inj e).symm)]
  exact e
theorem FracAt.nl {H H' : Hp} {a : Addr} {t b : Int} (s : NL H H') (r : FracAt H a t b) : FracAt H' a t b := s _ _ (fun _ z => by cases z) r
theorem RatAt.nl {C : Addr} {H H' : Hp} {a : Addr} {t b : Int} (s : NL H H') (r : RatAt C H a t b) : RatAt C H' a t b := by
  obtain ⟨dx, e⟩ := r
  exact ⟨dx, s _ _ (fun _ z => by cases z) e⟩
section
variable {K : PySem.W.Frag} {σ : L2.St} {H : Hp} {Q : VK} {te : TE} {l : Addr} {xs : List V} {n j : Nat} {vs : List Nat}
/-- over a list that stands, no test -/
theorem i_lcL (G : Nat → Hp → V → Prop) (hv : σ[n]? = some (some (.ref l))) (hl : H l = some (.lst xs)) (hz : xs.length ≤ 1000) (mono : ∀ i H1 H2 v, NL H1 H2 → G i H1 v → G i H2 v) (hw : ∀ x, wipe ((wipe σ vs).set j (some x)) vs = wipe σ vs)
    (turn : ∀ i x H' (Q' : VK), xs[i]? = some x → Same H H' → (∀ y H4, Same H' H4 → G i H4 y → Q' y H4) → te ((wipe σ vs).set j (some x)) H' Q')
    (fin : ∀ r H' ys, H r = none → Same H H' → H' r = some (.lst ys) → ys.length = xs.length → (∀ i v, ys[i]? = some v → G i H' v) → Q (.ref r) H') : tLc (iList K (tVar n)) (gName j) tYes te vs σ H Q := by
  refine ⟨_, hv, l, rfl, ⟨xs, SqL.of hl⟩, fun D nD => ?_⟩
  have same0 : Same H (upd H D (.lst [])) := fun c o e => by
    rw [upd_ne (ne_of_none e nD)]
    exact e
  refine lc_list (K := K) (a := l) (xs := xs) (fun i H' => ∃ ys, H' D = some (.lst ys) ∧ ys.length = i ∧ i ≤ xs.length ∧ Same H H' ∧ ∀ m v, ys[m]? = some v → G m H' v)
    ⟨[], upd_same, rfl, Nat.zero_le _, same0, fun m v e => by simp at e⟩ (fun i H' _ ⟨_, _, _, _, s, _⟩ => SqL.of (s _ _ hl)) ?_ ?_
  · rintro i x H' hi ⟨ys, hD, hy, hle, s, g⟩
    have hlt : i < xs.length := (List.getElem?_eq_some_iff.mp hi).1
    refine ⟨hw x, ?_⟩
    show te ((wipe σ vs).set j (some x)) H' _
    refine turn i x H' _ hi s fun y H4 s4 gy => ⟨ys, s4 _ _ hD, by rw [hy]; exact small1000 (by omega), ys ++ [y], upd_same, by rw [List.length_append, hy]; rfl, hlt, fun c o e => ?_, fun m v e => ?_⟩
    · rw [upd_ne (ne_of_none e nD)]
      exact s4 _ _ (s _ _ e)
    · have k := NL.upd (ys := ys ++ [y]) (s4 _ _ hD)
      rcases Nat.lt_or_ge m ys.length with h | h
      · rw [List.getElem?_append_left h] at e
        exact mono m _ _ v k (mono m _ _ v (NL.same s4) (g m v e))
      · rw [List.getElem?_append_right h] at e
        have : m - ys.length = 0 := by
          have := (List.getElem?_eq_some_iff.mp e).1
          simp at this
          omega
        rw [this] at e
        have e2 : y = v := Option.some.inj e
        subst e2
        have : m = i := by omega
        subst this
        exact mono _ _ _ y k gy
  · rintro H' ⟨ys, hD, hy, _, s, g⟩
    exact fin D H' ys nD s hD hy g
/-- over range(n), no test -/
theorem i_lcR {ta : TA} {m : Int} (G : Nat → Hp → V → Prop) (h : ∀ Q' : List V → Hp → Prop, Q' [.int m] H → ta σ H Q') (h0 : 0 ≤ m) (h1 : m ≤ 1000) (mono : ∀ i H1 H2 v, NL H1 H2 → G i H1 v → G i H2 v) (hw : ∀ x, wipe ((wipe σ vs).set j (some x)) vs = wipe σ vs)
    (turn : ∀ (i : Nat) H' (Q' : VK), (i : Int) < m → Same H H' → (∀ y H4, Same H' H4 → G i H4 y → Q' y H4) → te ((wipe σ vs).set j (some (.int (i : Int)))) H' Q')
    (fin : ∀ r H' ys, H r = none → Same H H' → H' r = some (.lst ys) → ys.length = m.toNat → (∀ i v, ys[i]? = some v → G i H' v) → Q (.ref r) H') : tLc (iRng1 ta) (gName j) tYes te vs σ H Q := by
  refine h _ ⟨m, rfl, by omega, by omega, fun D nD => ?_⟩
  have same0 : Same H (upd H D (.lst [])) := fun c o e => by
    rw [upd_ne (ne_of_none e nD)]
    exact e
  refine lc_range (lo := 0) (n := m.toNat) (fun i H' => ∃ ys, H' D = some (.lst ys) ∧ ys.length = i ∧ i ≤ m.toNat ∧ Same H H' ∧ ∀ k v, ys[k]? = some v → G k H' v)
    ⟨[], upd_same, rfl, Nat.zero_le _, same0, fun m v e => by simp at e⟩ ?_ ?_
  · rintro i H' hi ⟨ys, hD, hy, hle, s, g⟩
    have e0 : (0 : Int) + (i : Int) = (i : Int) := Int.zero_add _
    rw [e0]
    refine ⟨hw _, ?_⟩
    show te ((wipe σ vs).set j (some (.int (i : Int)))) H' _
    refine turn i H' _ (by omega) s fun y H4 s4 gy => ⟨ys, s4 _ _ hD, by rw [hy]; exact small1000 (by omega), ys ++ [y], upd_same, by rw [List.length_append, hy]; rfl, hi, fun c o e => ?_, fun k v e => ?_⟩
    · rw [upd_ne (ne_of_none e nD)]
      exact s4 _ _ (s _ _ e)
    · have kk := NL.upd (ys := ys ++ [y]) (s4 _ _ hD)
      rcases Nat.lt_or_ge k ys.length with h | h
      · rw [List.getElem?_append_left h] at e
        exact mono k _ _ v kk (mono k _ _ v (NL.same s4) (g k v e))
      · rw [List.getElem?_append_right h] at e
        have : k - ys.length = 0 := by
          have := (List.getElem?_eq_some_iff.mp e).1
          simp at this
          omega
        rw [this] at e
        have e2 : y = v := Option.some.inj e
        subst e2
        have : k = i := by omega
        subst this
        exact mono _ _ _ y kk gy
  · rintro H' ⟨ys, hD, hy, _, s, g⟩
    exact fin D H' ys nD s hD hy g
end
/-! ### keywords -/
section
variable {σ : L2.St} {H : Hp} {Q : VK} {E : XK} {C : Addr} {sp : Sp} {tk : TA} {ta : TE} {m : Str} {t b : Int} {a : Addr} {v : V}
def rSK (sp : Sp) (n : Nat) : List V → Hp → VK → Prop := fun zs H2 Q => zs.length = n ∧ sp ([] ++ zs) H2 Q E0
theorem i_smethK {n : Nat} (q : tk σ H fun zs H2 => rSK sp n zs H2 Q) : tSMethK0 C n sp (· ++ ·) (tC (.ref C)) tk σ H Q := ⟨rfl, q⟩
theorem i_sk1 (q : sp [v] H Q E0) : rSK sp 1 [v] H Q := ⟨rfl, q⟩
def rMK (C : Addr) (m : Str) (n : Nat) (sp : Sp) (tk : TA) (σ : L2.St) : V → Hp → VK → Prop := fun x H1 Q => ∃ a dx fs, x = .ref a ∧ H1 a = some (.ins C dx fs) ∧ fs.lookup m = none ∧ tk σ H1 fun zs H2 => zs.length = n ∧ sp ([x] ++ zs) H2 Q E0
theorem i_methK {n : Nat} (q : ta σ H fun x H1 => rMK C m n sp tk σ x H1 Q) : tMethK0 C m n sp (· ++ ·) ta tk σ H Q := q
def rMK1 (n : Nat) (sp : Sp) (x : V) : List V → Hp → VK → Prop := fun zs H2 Q => zs.length = n ∧ sp ([x] ++ zs) H2 Q E0
theorem i_rmk {n : Nat} (r : RatAt C H a t b) (h1 : ¬ m = "_top") (h2 : ¬ m = "_bottom") (q : tk σ H fun zs H2 => rMK1 n sp (.ref a) zs H2 Q) : rMK C m n sp tk σ (.ref a) H Q := by
  obtain ⟨dx, e⟩ := r
  exact ⟨a, dx, _, rfl, e, flds_no t b h1 h2, q⟩
theorem i_mk11 (q : sp [.ref a, v] H Q E0) : rMK1 1 sp (.ref a) [v] H Q := ⟨rfl, q⟩
/-- C(bottom=.., top=..) -/
def gBT {α : Type} (us ws : List α) : List α := us ++ ws.reverse
def rMakeK (C : Addr) (sp : Sp) : List V → Hp → VK → Prop := fun zs H2 Q => zs.length = 2 ∧ ∀ x dx, H2 x = none → H2 dx = none → dx ≠ x → sp (gBT [.ref x] zs) (upd (upd H2 dx (.own x)) x (.ins C dx [])) (fun v H3 => v = .non ∧ Q (.ref x) H3) E0
theorem i_makeK (q : tk σ H fun zs H2 => rMakeK C sp zs H2 Q) : tMakeK C 0 2 sp gBT E0 tNil tk σ H Q := by
  have e : (fun (zs : List V) (H2 : Hp) => rMakeK C sp zs H2 Q) = fun zs H2 => ([] : List V).length = 0 ∧ zs.length = 2 ∧ ∀ x dx, H2 x = none → H2 dx = none → dx ≠ x → sp (gBT (.ref x :: []) zs) (upd (upd H2 dx (.own x)) x (.ins C dx [])) (fun v H3 => v = .non ∧ Q (.ref x) H3) E0 := by
    funext zs H2
    simp [rMakeK]
  rw [e] at q
  exact q
theorem i_mkBT (hb : b ≠ 0) (z1 : t.natAbs < 2 ^ 8900) (z2 : b.natAbs < 2 ^ 8900) (q : ∀ x H', H x = none → Same H H' → RatAt C H' x (Nu t b) (De t b) → Q (.ref x) H') : rMakeK C (spInit C) [.int b, .int t] H Q := by
  refine ⟨rfl, ?_⟩
  have z := i_mk2 hb z1 z2 q
  intro x dx n1 n2 ne
  exact z x dx n1 n2 ne
end
structure MakK (W : Wd) (k : Nat) (x : Str) (C : Addr) (ks : List Str) (sp : Sp) : Prop where
  ex : ∃ (f : Addr) (fd : FuncData) (ps : List Str), Mk W.K C f ∧ FnOk W.P W.w W.K W.mg W.base CX0 k f fd ps sp ∧ W.mg x = some (.ref C) ∧ KBn W.K fd ps 1 ks gBT gBT
theorem pe_makK {X : Cx} {k j : Nat} {x : Str} {C : Addr} {ks : List Str} {sp : Sp} {p pos : Pos} {kws : List Keyword} {tk : TA} (h : MakK ⟨X.prog, X.w, X.K, X.mg, X.base⟩ k x C ks sp) (hr : Room j X.A) (hk : k + 1 ≤ j) (hg : Gl X x) (hkw : PK X kws tk)
    (hall : (backToKw pos (keywordEach kws X.env)).all (·.1.isSome) = true := by rfl) (hks : (backToKw pos (keywordEach kws X.env)).filterMap (·.1) = ks := by rfl) (hdb : (x == ("__debug__" : Str)) = false := by decide)
    (hpl : ((backTo pos (starEach [] X.env)).any (·.1) || (backToKw pos (keywordEach kws X.env)).any (·.1.isNone)) = false := by rfl) :
    PE X (.Call (.Name x p) [] kws pos) (tMakeK C 0 ks.length sp gBT E0 tNil tk) := by
  obtain ⟨f, fd, ps, M, F, hm, b⟩ := h.ex
  exact pe_makeK0 M F (hr.mono hk) hg hm b pass0 hkw hall hks hdb hpl
/-! ### lists of fractions, of Ratios -/
def FrL (H : Hp) (r : Addr) (ps : List (Int × Int)) : Prop := ∃ ys : List V, H r = some (.lst ys) ∧ ys.length = ps.length ∧ ∀ (i : Nat) (v : V) (p : Int × Int), ys[i]? = some v → ps[i]? = some p → ∃ y : Addr, v = V.ref y ∧ FracAt H y p.1 p.2
def spTold (C : Addr) : Sp := fun vs H Q _ => ∃ (l : Addr) (xs : List V) (ps : List (Int × Int)), vs = [.ref l] ∧ H l = some (.lst xs) ∧ xs.length = ps.length ∧ xs.length ≤ 1000 ∧ (∀ (i : Nat) (v : V) (p : Int × Int), xs[i]? = some v → ps[i]? = some p → ∃ y : Addr, v = V.ref y ∧ RatAt C H y p.1 p.2) ∧
  ∀ r H', H r = none → Same H H' → FrL H' r ps → Q (.ref r) H'
def spInts : Sp := fun vs H Q _ => ∃ (l : Addr) (ns : List Int), vs = [.ref l] ∧ H l = some (.lst (ns.map V.int)) ∧ ns.length ≤ 1000 ∧ ∀ H', Same H H' → Q (.bl true) H'
end Ly

namespace Ly
open PySem PySem.Spec PyProof.Rows L2
/-! ### equal data -/
def FrAll (H : Hp) : List V → List (Int × Int) → Prop
  | [], [] => True
  | v :: vs, p :: ps => (∃ y : Addr, v = V.ref y ∧ FracAt H y p.1 p.2) ∧ FrAll H vs ps
  | _, _ => False
def RaAll (C : Addr) (H : Hp) : List V → List (Int × Int) → Prop
  | [], [] => True
  | v :: vs, p :: ps => (∃ y : Addr, v = V.ref y ∧ RatAt C H y p.1 p.2) ∧ RaAll C H vs ps
  | _, _ => False
theorem FrAll.ix {H : Hp} : ∀ {ys : List V} {ps : List (Int × Int)}, FrAll H ys ps → ys.length = ps.length ∧ ∀ (i : Nat) (v : V) (p : Int × Int), ys[i]? = some v → ps[i]? = some p → ∃ y : Addr, v = V.ref y ∧ FracAt H y p.1 p.2
  | [], [], _ => ⟨rfl, fun i v p h => by simp at h⟩
  | v :: vs, p :: ps, h => by
    obtain ⟨l, g⟩ := FrAll.ix h.2
    refine ⟨by simp [l], fun i w q hw hq => ?_⟩
    cases i with
    | zero =>
      have e1 : v = w := Option.some.inj hw
      have e2 : p = q := Option.some.inj hq
      subst e1 e2
      exact h.1
    | succ i => exact g i w q hw hq
  | [], _ :: _, h => by cases h
  | _ :: _, [], h => by cases h
theorem RaAll.ix {C : Addr} {H : Hp} : ∀ {ys : List V} {ps : List (Int × Int)}, RaAll C H ys ps → ys.length = ps.length ∧ ∀ (i : Nat) (v : V) (p : Int × Int), ys[i]? = some v → ps[i]? = some p → ∃ y : Addr, v = V.ref y ∧ RatAt C H y p.1 p.2
  | [], [], _ => ⟨rfl, fun i v p h => by simp at h⟩
  | v :: vs, p :: ps, h => by
    obtain ⟨l, g⟩ := RaAll.ix h.2
    refine ⟨by simp [l], fun i w q hw hq => ?_⟩
    cases i with
    | zero =>
      have e1 : v = w := Option.some.inj hw
      have e2 : p = q := Option.some.inj hq
      subst e1 e2
      exact h.1
    | succ i => exact g i w q hw hq
  | [], _ :: _, h => by cases h
  | _ :: _, [], h => by cases h
theorem FrAll.of {H : Hp} : ∀ {ys : List V} {ps : List (Int × Int)}, ys.length = ps.length → (∀ (i : Nat) (v : V) (p : Int × Int), ys[i]? = some v → ps[i]? = some p → ∃ y : Addr, v = V.ref y ∧ FracAt H y p.1 p.2) → FrAll H ys ps
  | [], [], _, _ => trivial
  | v :: vs, p :: ps, l, h => ⟨h 0 v p rfl rfl, FrAll.of (by simpa using l) fun i w q hw hq => h (i + 1) w q hw hq⟩
  | [], _ :: _, l, _ => by cases l
  | _ :: _, [], l, _ => by cases l
theorem frl_of {H : Hp} {r : Addr} {ys : List V} {ps : List (Int × Int)} (h : H r = some (.lst ys)) (g : FrAll H ys ps) : FrL H r ps := ⟨ys, h, g.ix.1, g.ix.2⟩
theorem FrL.same {H H' : Hp} {r : Addr} {ps : List (Int × Int)} (s : Same H H') (h : FrL H r ps) : FrL H' r ps := by
  obtain ⟨ys, e, l, g⟩ := h
  refine ⟨ys, s _ _ e, l, fun i v p h1 h2 => ?_⟩
  obtain ⟨y, e2, f⟩ := g i v p h1 h2
  exact ⟨y, e2, f.same s⟩
def dF (p : Int × Int) : PyData := .tuple [.int p.1, .int p.2]
def dL (ps : List (Int × Int)) : PyData := .list (ps.map dF)
theorem FracAt.dp {K : PySem.W.Frag} {H : Hp} {r : Addr} {t b : Int} (h : FracAt H r t b) : Dp K H (.ref r) (dF (t, b)) := .tup (SqT.of h) (.cons (.int t) (.cons (.int b) .nil))
theorem FrAll.dp {K : PySem.W.Frag} {H : Hp} : ∀ {ys : List V} {ps : List (Int × Int)}, FrAll H ys ps → DpAll K H ys (ps.map dF)
  | [], [], _ => .nil
  | v :: vs, p :: ps, h => by
    obtain ⟨⟨y, rfl, f⟩, g⟩ := h
    exact .cons f.dp g.dp
  | [], _ :: _, h => by cases h
  | _ :: _, [], h => by cases h
theorem FrL.dp {K : PySem.W.Frag} {H : Hp} {r : Addr} {ps : List (Int × Int)} (h : FrL H r ps) : Dp K H (.ref r) (dL ps) := by
  obtain ⟨ys, e, l, g⟩ := h
  exact .lst (SqL.of e) (FrAll.of l g).dp
theorem dF_lay (p : Int × Int) : (dF p).canLay0 = true := by
  simp [dF, PyData.canLay0, PyData.canLayAll0]
theorem dL_lay (ps : List (Int × Int)) : (dL ps).canLay0 = true := by
  have e : PyData.canLayAll0 (ps.map dF) = true := by
    induction ps with
    | nil => rfl
    | cons p ps ih => simp [PyData.canLayAll0, dF_lay, ih]
  simp [dL, PyData.canLay0, e]
theorem dF_dep (p : Int × Int) : (dF p).depth = 1 := by
  simp [dF, PyData.depth, PyData.depthAll]
theorem dL_dep (ps : List (Int × Int)) : (dL ps).depth ≤ 2 := by
  have e : PyData.depthAll (ps.map dF) ≤ 1 := by
    induction ps with
    | nil => simp [PyData.depthAll]
    | cons p ps ih => 
      simp [PyData.depthAll, dF_dep]
      omega
  simp [dL, PyData.depth]
  omega
theorem dL_shaped (ps : List (Int × Int)) : SeqAt.shaped (dL ps) = true := by
  have := dL_dep ps
  unfold SeqAt.shaped
  rw [dL_lay, decide_eq_true (by omega)]
  rfl
theorem dF_shaped (p : Int × Int) : SeqAt.shaped (dF p) = true := by
  unfold SeqAt.shaped
  rw [dF_lay, dF_dep]
  rfl
theorem lay_refl {d : PyData} (h : SeqAt.shaped d = true) : d.eqv d = true := SeqAt.eqv_refl d (by
  unfold SeqAt.shaped at h
  exact (Bool.and_eq_true_iff.mp h).1)
/-- lists of ints, of texts -/
def dI (ns : List Int) : PyData := .list (ns.map PyData.int)
theorem dI_shaped (ns : List Int) : SeqAt.shaped (dI ns) = true := by
  have e : PyData.canLayAll0 (ns.map PyData.int) = true := by
    induction ns with
    | nil => rfl
    | cons p ps ih => simp [PyData.canLayAll0, PyData.canLay0, ih]
  have d : PyData.depthAll (ns.map PyData.int) = 0 := by
    clear e
    induction ns with
    | nil => rfl
    | cons p ps ih => simp [PyData.depthAll, PyData.depth, ih]
  unfold SeqAt.shaped
  simp [dI, PyData.canLay0, PyData.depth, e, d]
theorem dI_dp {K : PySem.W.Frag} {H : Hp} {r : Addr} {ns : List Int} (h : H r = some (.lst (ns.map V.int))) : Dp K H (.ref r) (dI ns) := by
  refine .lst (SqL.of h) ?_
  clear h
  induction ns with
  | nil => exact .nil
  | cons n ns ih => exact .cons (.int n) ih
section
variable {K : PySem.W.Frag} {H : Hp} {Q : VK} {x y : V} {d : PyData} {r r' : Addr} {ps : List (Int × Int)} {ns : List Int}
theorem i_eqD (h1 : Dp K H x d) (h2 : Dp K H y d) (s : SeqAt.shaped d = true) (q : Q (.bl true) H) : rEqU K x y H Q := .inr ⟨d, d, h1, h2, s, s, by rw [lay_refl s]; exact q⟩
theorem i_neD (h1 : Dp K H x d) (h2 : Dp K H y d) (s : SeqAt.shaped d = true) (q : Q (.bl false) H) : rNeU K x y H Q := .inr ⟨d, d, h1, h2, s, s, by rw [lay_refl s]; exact q⟩
theorem i_eqFr (h1 : FrL H r ps) (h2 : FrL H r' ps) (q : Q (.bl true) H) : rEqU K (.ref r) (.ref r') H Q := i_eqD h1.dp h2.dp (dL_shaped ps) q
theorem i_neFr (h1 : FrL H r ps) (h2 : FrL H r' ps) (q : Q (.bl false) H) : rNeU K (.ref r) (.ref r') H Q := i_neD h1.dp h2.dp (dL_shaped ps) q
theorem i_eqIn (h1 : H r = some (.lst (ns.map V.int))) (h2 : H r' = some (.lst (ns.map V.int))) (q : Q (.bl true) H) : rEqU K (.ref r) (.ref r') H Q := i_eqD (dI_dp h1) (dI_dp h2) (dI_shaped ns) q
theorem i_neIn (h1 : H r = some (.lst (ns.map V.int))) (h2 : H r' = some (.lst (ns.map V.int))) (q : Q (.bl false) H) : rNeU K (.ref r) (.ref r') H Q := i_neD (dI_dp h1) (dI_dp h2) (dI_shaped ns) q
/-- two fractions of the law -/
theorem i_eqF {t b t2 b2 : Int} (h1 : FracAt H r t b) (h2 : FracAt H r' t2 b2) (q : Q (.bl (decide (t = t2) && decide (b = b2))) H) : rEqU K (.ref r) (.ref r') H Q := by
  refine .inr ⟨_, _, h1.dp, h2.dp, dF_shaped _, dF_shaped _, ?_⟩
  have e : (dF (t, b)).eqv (dF (t2, b2)) = (decide (t = t2) && decide (b = b2)) := by
    have k : ∀ i j : Int, (i == j) = decide (i = j) := fun i j => by
      by_cases h : i = j <;> simp [h]
    simp [dF, PyData.eqv, PyData.eqvAll, k]
  rw [e]
  exact q
/-- two lists of two bools, of four -/
def dB (bs : List Bool) : PyData := .list (bs.map PyData.bool)
theorem dB_shaped (ns : List Bool) : SeqAt.shaped (dB ns) = true := by
  have e : PyData.canLayAll0 (ns.map PyData.bool) = true := by
    induction ns with
    | nil => rfl
    | cons p ps ih => simp [PyData.canLayAll0, PyData.canLay0, ih]
  have d : PyData.depthAll (ns.map PyData.bool) = 0 := by
    clear e
    induction ns with
    | nil => rfl
    | cons p ps ih => simp [PyData.depthAll, PyData.depth, ih]
  unfold SeqAt.shaped
  simp [dB, PyData.canLay0, PyData.depth, e, d]
theorem i_eqBl {bs : List Bool} (h1 : H r = some (.lst (bs.map V.bl))) (h2 : H r' = some (.lst (bs.map V.bl))) (q : Q (.bl true) H) : rEqU K (.ref r) (.ref r') H Q := by
  have g : ∀ {r : Addr}, H r = some (.lst (bs.map V.bl)) → Dp K H (.ref r) (dB bs) := fun h => by
    refine .lst (SqL.of h) ?_
    clear h h1 h2 q
    induction bs with
    | nil => exact .nil
    | cons n ns ih => exact .cons (.bl n) ih
  exact i_eqD (g h1) (g h2) (dB_shaped bs) q
end
/-- texts below the limit may be compared -/
theorem i_neTx {K : PySem.W.Frag} {H : Hp} {Q : VK} {r r' : Addr} {x y : Str} (z1 : PyData.strOk x = true) (z2 : PyData.strOk y = true) (h1 : H r = some (.lst [.str x, .str y])) (h2 : H r' = some (.lst [.str x, .str y])) (q : Q (.bl false) H) : rNeU K (.ref r) (.ref r') H Q := by
  have g : ∀ {r : Addr}, H r = some (.lst [.str x, .str y]) → Dp K H (.ref r) (.list [.str x, .str y]) := fun h => .lst (SqL.of h) (.cons (.str x) (.cons (.str y) .nil))
  refine i_neD (g h1) (g h2) ?_ q
  unfold SeqAt.shaped
  simp [PyData.canLay0, PyData.canLayAll0, PyData.depth, PyData.depthAll, z1, z2]
theorem ok_app {x y : Str} (h : PyData.strOk x = true) (k : PyData.strOk y = true) : PyData.strOk (x ++ y) = true := by
  show (x.cps ++ y.cps).all _ = true
  rw [Array.all_append]
  exact Bool.and_eq_true_iff.mpr ⟨h, k⟩
theorem ok_It (i : Int) : PyData.strOk (It i) = true := by
  have h : ∀ c ∈ (It i).cps.toList, c < 1114112 := fun c hc => by
    rcases Nat.lt_or_ge c 1114112 with k | k
    · exact k
    · exact absurd hc (PyProof.Rows.int_text_free' c (by omega) i)
  unfold PyData.strOk
  rw [Array.all_eq_true']
  intro c hc
  exact decide_eq_true (h c (Array.mem_toList_iff.mpr hc))
theorem ok_Rt (t b : Int) : PyData.strOk (Rt t b) = true := by
  unfold Rt
  split
  · exact ok_It t
  · exact ok_app (ok_app (ok_It t) (by decide +kernel)) (ok_It b)
theorem ok_Rp (t b : Int) : PyData.strOk (Rp t b) = true := ok_app (ok_app (ok_app (ok_app (by decide +kernel) (ok_It t)) (by decide +kernel)) (ok_It b)) (by decide +kernel)
theorem i_told {C : Addr} {H : Hp} {Q : VK} {E : XK} {l : Addr} {xs : List V} {ps : List (Int × Int)} (h : H l = some (.lst xs)) (g : RaAll C H xs ps) (z : xs.length ≤ 1000) (q : ∀ r H', H r = none → Same H H' → FrL H' r ps → Q (.ref r) H') : spTold C [.ref l] H Q E := ⟨l, xs, ps, rfl, h, g.ix.1, z, g.ix.2, q⟩
theorem i_ints {H : Hp} {Q : VK} {E : XK} {l : Addr} {ns : List Int} (h : H l = some (.lst (ns.map V.int))) (z : ns.length ≤ 1000) (q : ∀ H', Same H H' → Q (.bl true) H') : spInts [.ref l] H Q E := ⟨l, ns, rfl, h, z, q⟩
section
variable {C : Addr} {H : Hp} {Q : VK} {E : XK} {l : Addr}
theorem i_told1 {r1 : Addr} {t1 b1 : Int} (h : H l = some (.lst [.ref r1])) (g1 : RatAt C H r1 t1 b1) (q : ∀ r H', H r = none → Same H H' → FrL H' r [(t1, b1)] → Q (.ref r) H') : spTold C [.ref l] H Q E := i_told (ps := [(t1, b1)]) h ⟨⟨r1, rfl, g1⟩, trivial⟩ (by show 1 ≤ 1000; decide) q
theorem frl1 {r1 : Addr} {t1 b1 : Int} (h : H l = some (.lst [.ref r1])) (g1 : FracAt H r1 t1 b1) : FrL H l [(t1, b1)] := frl_of (ps := [(t1, b1)]) h ⟨⟨r1, rfl, g1⟩, trivial⟩
theorem i_told2 {r1 r2 : Addr} {t1 b1 t2 b2 : Int} (h : H l = some (.lst [.ref r1, .ref r2])) (g1 : RatAt C H r1 t1 b1) (g2 : RatAt C H r2 t2 b2) (q : ∀ r H', H r = none → Same H H' → FrL H' r [(t1, b1), (t2, b2)] → Q (.ref r) H') : spTold C [.ref l] H Q E := i_told (ps := [(t1, b1), (t2, b2)]) h ⟨⟨r1, rfl, g1⟩, ⟨r2, rfl, g2⟩, trivial⟩ (by show 2 ≤ 1000; decide) q
theorem frl2 {r1 r2 : Addr} {t1 b1 t2 b2 : Int} (h : H l = some (.lst [.ref r1, .ref r2])) (g1 : FracAt H r1 t1 b1) (g2 : FracAt H r2 t2 b2) : FrL H l [(t1, b1), (t2, b2)] := frl_of (ps := [(t1, b1), (t2, b2)]) h ⟨⟨r1, rfl, g1⟩, ⟨r2, rfl, g2⟩, trivial⟩
theorem i_told3 {r1 r2 r3 : Addr} {t1 b1 t2 b2 t3 b3 : Int} (h : H l = some (.lst [.ref r1, .ref r2, .ref r3])) (g1 : RatAt C H r1 t1 b1) (g2 : RatAt C H r2 t2 b2) (g3 : RatAt C H r3 t3 b3) (q : ∀ r H', H r = none → Same H H' → FrL H' r [(t1, b1), (t2, b2), (t3, b3)] → Q (.ref r) H') : spTold C [.ref l] H Q E := i_told (ps := [(t1, b1), (t2, b2), (t3, b3)]) h ⟨⟨r1, rfl, g1⟩, ⟨r2, rfl, g2⟩, ⟨r3, rfl, g3⟩, trivial⟩ (by show 3 ≤ 1000; decide) q
theorem frl3 {r1 r2 r3 : Addr} {t1 b1 t2 b2 t3 b3 : Int} (h : H l = some (.lst [.ref r1, .ref r2, .ref r3])) (g1 : FracAt H r1 t1 b1) (g2 : FracAt H r2 t2 b2) (g3 : FracAt H r3 t3 b3) : FrL H l [(t1, b1), (t2, b2), (t3, b3)] := frl_of (ps := [(t1, b1), (t2, b2), (t3, b3)]) h ⟨⟨r1, rfl, g1⟩, ⟨r2, rfl, g2⟩, ⟨r3, rfl, g3⟩, trivial⟩
theorem i_told6 {r1 r2 r3 r4 r5 r6 : Addr} {t1 b1 t2 b2 t3 b3 t4 b4 t5 b5 t6 b6 : Int} (h : H l = some (.lst [.ref r1, .ref r2, .ref r3, .ref r4, .ref r5, .ref r6])) (g1 : RatAt C H r1 t1 b1) (g2 : RatAt C H r2 t2 b2) (g3 : RatAt C H r3 t3 b3) (g4 : RatAt C H r4 t4 b4) (g5 : RatAt C H r5 t5 b5) (g6 : RatAt C H r6 t6 b6) (q : ∀ r H', H r = none → Same H H' → FrL H' r [(t1, b1), (t2, b2), (t3, b3), (t4, b4), (t5, b5), (t6, b6)] → Q (.ref r) H') : spTold C [.ref l] H Q E := i_told (ps := [(t1, b1), (t2, b2), (t3, b3), (t4, b4), (t5, b5), (t6, b6)]) h ⟨⟨r1, rfl, g1⟩, ⟨r2, rfl, g2⟩, ⟨r3, rfl, g3⟩, ⟨r4, rfl, g4⟩, ⟨r5, rfl, g5⟩, ⟨r6, rfl, g6⟩, trivial⟩ (by show 6 ≤ 1000; decide) q
theorem frl6 {r1 r2 r3 r4 r5 r6 : Addr} {t1 b1 t2 b2 t3 b3 t4 b4 t5 b5 t6 b6 : Int} (h : H l = some (.lst [.ref r1, .ref r2, .ref r3, .ref r4, .ref r5, .ref r6])) (g1 : FracAt H r1 t1 b1) (g2 : FracAt H r2 t2 b2) (g3 : FracAt H r3 t3 b3) (g4 : FracAt H r4 t4 b4) (g5 : FracAt H r5 t5 b5) (g6 : FracAt H r6 t6 b6) : FrL H l [(t1, b1), (t2, b2), (t3, b3), (t4, b4), (t5, b5), (t6, b6)] := frl_of (ps := [(t1, b1), (t2, b2), (t3, b3), (t4, b4), (t5, b5), (t6, b6)]) h ⟨⟨r1, rfl, g1⟩, ⟨r2, rfl, g2⟩, ⟨r3, rfl, g3⟩, ⟨r4, rfl, g4⟩, ⟨r5, rfl, g5⟩, ⟨r6, rfl, g6⟩, trivial⟩
end
end Ly

namespace Ly
open PySem PySem.Spec PyProof.Rows L2
/-- an item of a list, by a count -/
def rGetL (K : PySem.W.Frag) : V → V → Hp → VK → Prop := fun x y H Q => ∃ (p : Addr) (xs : List V) (m : Nat) (v : V), x = .ref p ∧ y = .int m ∧ SqL K H p xs ∧ xs[m]? = some v ∧ Q v H
theorem pget_list {X : Cx} : PGet X (rGetL X.K) := fun pins s σ H o i ov iv Q I ro ri ⟨p, xs, n, z, ho, hi, hq, he, q⟩ => by
  subst ho
  subst hi
  obtain rfl : ov = .ref p := ro
  obtain ⟨t, rfl⟩ := ri
  obtain ⟨its, r, pl, hz⟩ := I.list hq
  obtain ⟨w, ew, rw'⟩ := r.get he
  have hl : n < xs.length := (List.getElem?_eq_some_iff.mp he).1
  have hs : sizeLine < 2 ^ 62 := by decide
  refine PyProof.Rows.getItem_listL pl.isList (by omega) (by omega) (x := w) ?_ ?_
  · rw [Int.toNat_natCast]
    exact ew
  · exact ⟨_, _, I, rw', q⟩
section
variable {X : Cx} {k j : Nat} {C : Addr} {x : Str} {sp : Sp} {op : Operator}
theorem neg_m (h : Mt ⟨X.prog, X.w, X.K, X.mg, X.base⟩ k C "__neg__" sp) (hr : Room j X.A) (hk : k ≤ j) : UnR X (unaryOp UnaryOp.USub) (uOwn C sp) := by
  obtain ⟨f, fd, ps, hm, F, b⟩ := h.ex
  exact un_own F (hr.mono hk) b hm.at_ hm.fn
theorem abs_m (h : Mt ⟨X.prog, X.w, X.K, X.mg, X.base⟩ k C "__abs__" sp) (hr : Room j X.A) (hk : k + 1 ≤ j) : CallR X (.builtin "abs") (rCOwn C sp) := by
  obtain ⟨f, fd, ps, hm, F, b⟩ := h.ex
  exact call_abs_own F (hr.mono hk) b hm.at_ hm.fn
theorem str_m (h : Mt ⟨X.prog, X.w, X.K, X.mg, X.base⟩ k C "__str__" sp) (hr : Room j X.A) (hk : k + 3 ≤ j) : CallR X (.type "str") (rSOwn C sp) := by
  obtain ⟨f, fd, ps, hm, F, b⟩ := h.ex
  exact call_str_own F (hr.mono hk) b hm.at_ hm.fn
theorem repr_m (h : Mt ⟨X.prog, X.w, X.K, X.mg, X.base⟩ k C "__repr__" sp) (hr : Room j X.A) (hk : k + 2 ≤ j) : CallR X (.builtin "repr") (rSOwn C sp) := by
  obtain ⟨f, fd, ps, hm, F, b⟩ := h.ex
  exact call_repr_own F (hr.mono hk) b hm.at_ hm.fn
def rEqNum (C : Addr) (sp : Sp) : R2 := rOr (rEqOwn C sp) (rIEqOwn C sp id)
def rNeNum (C : Addr) (sp : Sp) : R2 := rOr (rNeOwn C sp) (rIEqOwn C sp not)
theorem op_eqN (h : Mt ⟨X.prog, X.w, X.K, X.mg, X.base⟩ k C "__eq__" sp) (o : OwnC X.K X.mg x C) (hr : Room j X.A) (hk : k ≤ j) : OpR X (compareOp .Eq) (rEqNum C sp) := by
  obtain ⟨f, fd, ps, hm, F, b⟩ := h.ex
  exact opr_or (op_eq_own F (hr.mono hk) b hm.at_ hm.fn o.nI) (op_eq_Iown F (hr.mono hk) b hm.at_ hm.fn o.sI')
theorem op_neN (h : Mt ⟨X.prog, X.w, X.K, X.mg, X.base⟩ k C "__eq__" sp) (o : OwnC X.K X.mg x C) (ne : PySem.W.findIn X.K (.ref C) "__ne__" = some (some (.builtin "object.__ne__"))) (hr : Room j X.A) (hk : k + 3 ≤ j) : OpR X (compareOp .NotEq) (rNeNum C sp) := by
  obtain ⟨f, fd, ps, hm, F, b⟩ := h.ex
  exact opr_or (op_ne_own F (hr.mono hk) b hm.at_ hm.fn ne o.sO o.sI) (op_ne_Iown F (hr.mono hk) b hm.at_ hm.fn ne o.sO o.sI')
/-- in place, on the left an own one, on the right an own one or an int -/
def rInp (C : Addr) (sp : Sp) : TIp := fun x y H Q => ∃ a dx fs, x = .ref a ∧ H a = some (.ins C dx fs) ∧ ((∃ b dy gs, y = .ref b ∧ H b = some (.ins C dy gs)) ∨ ∃ i, y = .int i) ∧ sp [x, y] H Q E0
theorem ip_num {m m' : Str} {k' : Nat} {spR : Sp} (h : Mt ⟨X.prog, X.w, X.K, X.mg, X.base⟩ k C m sp) (h' : Mt ⟨X.prog, X.w, X.K, X.mg, X.base⟩ k' C m' spR) (o : OwnC X.K X.mg x C) (hr : Room j X.A) (hk : k ≤ j) (e : PySem.dunder op.info.2 = m) (e' : dunderR op.info.2 = m')
    (hi : PySem.W.findIn X.K (.ref C) (dunderI op.info.2) = some none) (ho : PySem.W.findIn X.K (.type "object") (dunderI op.info.2) = some none)
    {fo ro : Option Value} (h1 : PySem.W.findIn X.K (.type "int") (PySem.dunder op.info.2) = some fo) (h2 : PySem.W.findIn X.K (.type "int") (dunderR op.info.2) = some ro) (h12 : ((fo.isSome && !isSeqSlot fo) || (ro.isSome && !isSeqSlot ro)) = true) : PIp X op (rInp C sp) := by
  subst e
  subst e'
  obtain ⟨f, fd, ps, hm, F, b⟩ := _root_.id h.ex
  obtain ⟨f', fd', ps', hm', F', b'⟩ := _root_.id h'.ex
  intro pins s σ H u w v v' Q I ru rw' q
  obtain ⟨a, dx, fs, rfl, ha, hy, q⟩ := q
  obtain rfl : v = .ref a := ru
  refine in_of I ha o.m2 hi ho ?_
  rcases hy with ⟨c, dy, gs, rfl, hc⟩ | ⟨i, rfl⟩
  · obtain rfl : v' = .ref c := rw'
    exact bin1_own2 F (hr.mono hk) b hm.at_ hm.fn o.sf I ha hc q
  · obtain ⟨t, rfl⟩ := rw'
    exact bin1_ownI F (hr.mono hk) b hm.at_ hm.fn o.sf (rc := some (.ref f')) hm'.at_ (.inr ⟨f', rfl⟩) h1 h2 h12 o.sI I ha q
end
theorem ip_addN {X : Cx} {C : Addr} {x : Str} {k k' j : Nat} {sp spR : Sp} (h : Mt ⟨X.prog, X.w, X.K, X.mg, X.base⟩ k C "__add__" sp) (h' : Mt ⟨X.prog, X.w, X.K, X.mg, X.base⟩ k' C "__radd__" spR) (o : OwnC X.K X.mg x C) (hi : PySem.W.findIn X.K (.ref C) "__iadd__" = some none) (hr : Room j X.A) (hk : k ≤ j) : PIp X .Add (rInp C sp) :=
  ip_num (op := .Add) h h' o hr hk (by decide +kernel) (by decide +kernel) hi (by with_unfolding_all rfl) (fo := some (.builtin "int.__add__")) (ro := some (.builtin "int.__radd__")) (by with_unfolding_all rfl) (by with_unfolding_all rfl) (by decide +kernel)
theorem ip_subN {X : Cx} {C : Addr} {x : Str} {k k' j : Nat} {sp spR : Sp} (h : Mt ⟨X.prog, X.w, X.K, X.mg, X.base⟩ k C "__sub__" sp) (h' : Mt ⟨X.prog, X.w, X.K, X.mg, X.base⟩ k' C "__rsub__" spR) (o : OwnC X.K X.mg x C) (hi : PySem.W.findIn X.K (.ref C) "__isub__" = some none) (hr : Room j X.A) (hk : k ≤ j) : PIp X .Sub (rInp C sp) :=
  ip_num (op := .Sub) h h' o hr hk (by decide +kernel) (by decide +kernel) hi (by with_unfolding_all rfl) (fo := some (.builtin "int.__sub__")) (ro := some (.builtin "int.__rsub__")) (by with_unfolding_all rfl) (by with_unfolding_all rfl) (by decide +kernel)
theorem ip_mulN {X : Cx} {C : Addr} {x : Str} {k k' j : Nat} {sp spR : Sp} (h : Mt ⟨X.prog, X.w, X.K, X.mg, X.base⟩ k C "__mul__" sp) (h' : Mt ⟨X.prog, X.w, X.K, X.mg, X.base⟩ k' C "__rmul__" spR) (o : OwnC X.K X.mg x C) (hi : PySem.W.findIn X.K (.ref C) "__imul__" = some none) (hr : Room j X.A) (hk : k ≤ j) : PIp X .Mult (rInp C sp) :=
  ip_num (op := .Mult) h h' o hr hk (by decide +kernel) (by decide +kernel) hi (by with_unfolding_all rfl) (fo := some (.builtin "int.__mul__")) (ro := some (.builtin "int.__rmul__")) (by with_unfolding_all rfl) (by with_unfolding_all rfl) (by decide +kernel)
theorem ip_fdN {X : Cx} {C : Addr} {x : Str} {k k' j : Nat} {sp spR : Sp} (h : Mt ⟨X.prog, X.w, X.K, X.mg, X.base⟩ k C "__floordiv__" sp) (h' : Mt ⟨X.prog, X.w, X.K, X.mg, X.base⟩ k' C "__rfloordiv__" spR) (o : OwnC X.K X.mg x C) (hi : PySem.W.findIn X.K (.ref C) "__ifloordiv__" = some none) (hr : Room j X.A) (hk : k ≤ j) : PIp X .FloorDiv (rInp C sp) :=
  ip_num (op := .FloorDiv) h h' o hr hk (by decide +kernel) (by decide +kernel) hi (by with_unfolding_all rfl) (fo := some (.builtin "int.__floordiv__")) (ro := some (.builtin "int.__rfloordiv__")) (by with_unfolding_all rfl) (by with_unfolding_all rfl) (by decide +kernel)
theorem ip_mdN {X : Cx} {C : Addr} {x : Str} {k k' j : Nat} {sp spR : Sp} (h : Mt ⟨X.prog, X.w, X.K, X.mg, X.base⟩ k C "__mod__" sp) (h' : Mt ⟨X.prog, X.w, X.K, X.mg, X.base⟩ k' C "__rmod__" spR) (o : OwnC X.K X.mg x C) (hi : PySem.W.findIn X.K (.ref C) "__imod__" = some none) (hr : Room j X.A) (hk : k ≤ j) : PIp X .Mod (rInp C sp) :=
  ip_num (op := .Mod) h h' o hr hk (by decide +kernel) (by decide +kernel) hi (by with_unfolding_all rfl) (fo := some (.builtin "int.__mod__")) (ro := some (.builtin "int.__rmod__")) (by with_unfolding_all rfl) (by with_unfolding_all rfl) (by decide +kernel)
section
variable {H : Hp} {Q : VK} {E : XK} {K : PySem.W.Frag} {C a : Addr} {t b t2 b2 : Int} {y : V} {ta : TE} {σ : L2.St}
theorem i_negR {f : Int → Int} (r : RatAt C H a t b) (o : Ok4 t b) (q : ∀ r H', H r = none → Same H H' → RatAt C H' r (Nu (f t) b) (De (f t) b) → Q (.ref r) H') : uOwn C (spUn C f) (.ref a) H Q := by
  obtain ⟨dx, e⟩ := _root_.id r
  exact ⟨a, dx, _, rfl, e, a, t, b, rfl, r, o, q⟩
theorem i_absR {f : Int → Int} (r : RatAt C H a t b) (o : Ok4 t b) (q : ∀ r H', H r = none → Same H H' → RatAt C H' r (Nu (f t) b) (De (f t) b) → Q (.ref r) H') : rCOwn C (spUn C f) [.ref a] H Q := by
  obtain ⟨dx, e⟩ := _root_.id r
  exact ⟨a, dx, _, rfl, e, a, t, b, rfl, r, o, q⟩
theorem i_strR {f : Int → Int → Str} (r : RatAt C H a t b) (z1 : Sz 1900 t) (z2 : Sz 1900 b) (q : Q (.str (f t b)) H) : rSOwn C (spTxt C f) [.ref a] H Q := by
  obtain ⟨dx, e⟩ := _root_.id r
  exact ⟨a, dx, _, rfl, e, a, t, b, rfl, r, z1, z2, ⟨_, rfl⟩, q⟩
theorem i_int1 {f : Int → Int → Int} (r : RatAt C H a t b) (h : 0 < b) (z : Sz 8900 b) (q : Q (.int (f t b)) H) : spInt C f [.ref a] H Q E := ⟨a, t, b, rfl, r, h, z, q⟩
theorem i_cmp {v : V} (r : RatAt C H a t b) (o : Ok4 t b) (n : Num C H v t2 b2) (o2 : Ok4 t2 b2) (q : ∀ H', Same H H' → Q (.int (cmpI t b t2 b2)) H') : spCmp C [.ref a, v] H Q E := ⟨a, v, t, b, t2, b2, rfl, r, o, n, o2, q⟩
theorem i_over {v : V} (r : RatAt C H a t b) (o : Ok4 t b) (n : Num C H v t2 b2) (o2 : Ok4 t2 b2) (h : t2 ≠ 0) (q : ∀ r H', H r = none → Same H H' → RatAt C H' r (Nu (oN t b t2 b2) (oD t b t2 b2)) (De (oN t b t2 b2) (oD t b t2 b2)) → Q (.ref r) H') : spOver C [.ref a, v] H Q E := ⟨a, v, t, b, t2, b2, rfl, r, o, n, o2, h, q⟩
theorem i_inp {nu de : Int → Int → Int → Int → Int} (r : RatAt C H a t b) (n : Num C H y t2 b2) (o : Ok4 t b) (o2 : Ok4 t2 b2) (q : pR C nu de t b t2 b2 H Q) : rInp C (spBin C nu de) (.ref a) y H Q := by
  obtain ⟨dx, e⟩ := _root_.id r
  refine ⟨a, dx, _, rfl, e, ?_, a, y, t, b, t2, b2, rfl, r, o, n, o2, q⟩
  rcases n with ⟨rfl, _⟩ | ⟨c, rfl, dy, e2⟩
  · exact .inr ⟨_, rfl⟩
  · exact .inl ⟨c, dy, _, rfl, e2⟩
theorem i_inpG {pre : Q4} {post : P4} (r : RatAt C H a t b) (n : Num C H y t2 b2) (o : Ok4 t b) (o2 : Ok4 t2 b2) (p : pre t b t2 b2) (q : post t b t2 b2 H Q) : rInp C (spBinG C pre post) (.ref a) y H Q := by
  obtain ⟨dx, e⟩ := _root_.id r
  refine ⟨a, dx, _, rfl, e, ?_, a, y, t, b, t2, b2, rfl, r, o, n, o2, p, q⟩
  rcases n with ⟨rfl, _⟩ | ⟨c, rfl, dy, e2⟩
  · exact .inr ⟨_, rfl⟩
  · exact .inl ⟨c, dy, _, rfl, e2⟩
/-- == of a Ratio and any number, from either side -/
def sameR (y : V) (t b t2 b2 : Int) : Bool := isRef y && (decide (t = t2) && decide (b = b2))
theorem i_eqL (r : RatAt C H a t b) (n : Num C H y t2 b2) (q : Q (.bl (sameR y t b t2 b2)) H) : rEqNum C (spREq C) (.ref a) y H Q := by
  obtain ⟨dx, e⟩ := _root_.id r
  refine .inl ⟨a, dx, _, rfl, e, ?_, a, y, t, b, t2, b2, rfl, r, n, q⟩
  rcases n with ⟨rfl, _⟩ | ⟨c, rfl, dy, e2⟩
  · exact .inr ⟨_, rfl⟩
  · exact .inl ⟨c, dy, _, rfl, e2⟩
theorem i_neL (r : RatAt C H a t b) (n : Num C H y t2 b2) (q : Q (.bl (!sameR y t b t2 b2)) H) : rNeNum C (spREq C) (.ref a) y H Q := by
  obtain ⟨dx, e⟩ := _root_.id r
  refine .inl ⟨a, dx, _, rfl, e, ?_, a, y, t, b, t2, b2, rfl, r, n, _, rfl, q⟩
  rcases n with ⟨rfl, _⟩ | ⟨c, rfl, dy, e2⟩
  · exact .inr ⟨_, rfl⟩
  · exact .inl ⟨c, dy, _, rfl, e2⟩
theorem dcomm (i j : Int) : decide (i = j) = decide (j = i) := by
  by_cases h : i = j
  · rw [h]
  · rw [decide_eq_false h, decide_eq_false fun z => h z.symm]
theorem i_eqR (r : RatAt C H a t b) (n : Num C H y t2 b2) (q : Q (.bl (sameR y t b t2 b2)) H) : rEqNum C (spREq C) y (.ref a) H Q := by
  obtain ⟨dx, e⟩ := _root_.id r
  rcases n with ⟨rfl, _⟩ | ⟨c, rfl, dy, e2⟩
  · exact .inr ⟨a, dx, _, t2, rfl, rfl, e, a, .int t2, t, b, t2, 1, rfl, r, num_int t2, _, rfl, q⟩
  · refine .inl ⟨c, dy, _, rfl, e2, .inl ⟨a, dx, _, rfl, e⟩, c, .ref a, t2, b2, t, b, rfl, ⟨dy, e2⟩, r.num, ?_⟩
    unfold sameR at q
    rw [dcomm t2, dcomm b2]
    exact q
theorem i_neR (r : RatAt C H a t b) (n : Num C H y t2 b2) (q : Q (.bl (!sameR y t b t2 b2)) H) : rNeNum C (spREq C) y (.ref a) H Q := by
  obtain ⟨dx, e⟩ := _root_.id r
  rcases n with ⟨rfl, _⟩ | ⟨c, rfl, dy, e2⟩
  · exact .inr ⟨a, dx, _, t2, rfl, rfl, e, a, .int t2, t, b, t2, 1, rfl, r, num_int t2, _, rfl, q⟩
  · refine .inl ⟨c, dy, _, rfl, e2, .inl ⟨a, dx, _, rfl, e⟩, c, .ref a, t2, b2, t, b, rfl, ⟨dy, e2⟩, r.num, _, rfl, ?_⟩
    unfold sameR at q
    rw [dcomm t2, dcomm b2]
    exact q
end
end Ly

namespace Ly
theorem nu_g {x y : Int} (h : y ≠ 0) : ∃ g, g ≠ 0 ∧ x = Nu x y * g ∧ y = De x y * g := by
  have hg := G_pos (t := x) h
  have e1 : x / G x y * G x y = x := Int.ediv_mul_cancel (G_dl x y)
  have e2 : y / G x y * G x y = y := Int.ediv_mul_cancel (G_dr x y)
  have n1 : G x y ∣ -x := (Int.dvd_neg).mpr (G_dl x y)
  have n2 : G x y ∣ -y := (Int.dvd_neg).mpr (G_dr x y)
  have e3 : -x / G x y * G x y = -x := Int.ediv_mul_cancel n1
  have e4 : -y / G x y * G x y = -y := Int.ediv_mul_cancel n2
  unfold Nu De
  by_cases hy : 0 < y
  · rw [if_pos hy, if_pos hy]
    exact ⟨G x y, by omega, e1.symm, e2.symm⟩
  · rw [if_neg hy, if_neg hy]
    refine ⟨-G x y, by omega, ?_, ?_⟩
    · rw [Int.mul_neg, e3, Int.neg_neg]
    · rw [Int.mul_neg, e4, Int.neg_neg]
theorem nu_cross {x y : Int} (h : y ≠ 0) : Nu x y * y = x * De x y := by
  obtain ⟨g, hg, e1, e2⟩ := nu_g (x := x) h
  have a1 : Nu x y * y = Nu x y * (De x y * g) := congrArg (Nu x y * ·) e2
  have a2 : x * De x y = Nu x y * g * De x y := congrArg (· * De x y) e1
  rw [a1, a2, Int.mul_assoc, Int.mul_comm g]
theorem Lo.scale' {t b s : Int} (l : Lo t b) (hs : s ≠ 0) : Nu (t * s) (b * s) = t ∧ De (t * s) (b * s) = b := by
  have hb := l.pos
  have eg : G (t * s) (b * s) = (s.natAbs : Int) := by
    unfold G
    rw [Int.gcd_mul_right, l.one, Nat.one_mul]
  unfold Nu De
  rw [eg]
  by_cases hp : 0 < s
  · have e : (s.natAbs : Int) = s := by omega
    rw [e, if_pos (Int.mul_pos hb hp), if_pos (Int.mul_pos hb hp)]
    exact ⟨Int.mul_ediv_cancel t hs, Int.mul_ediv_cancel b hs⟩
  · have e : (s.natAbs : Int) = -s := by omega
    have n : ¬ 0 < b * s := by
      intro z
      have := Int.mul_neg_of_pos_of_neg hb (show s < 0 by omega)
      omega
    rw [e, if_neg n, if_neg n, ← Int.mul_neg, ← Int.mul_neg]
    exact ⟨Int.mul_ediv_cancel t (by omega), Int.mul_ediv_cancel b (by omega)⟩
theorem nu_scale {x y s : Int} (h : y ≠ 0) (hs : s ≠ 0) : Nu (x * s) (y * s) = Nu x y ∧ De (x * s) (y * s) = De x y := by
  obtain ⟨g, hg, e1, e2⟩ := nu_g (x := x) h
  have k := (lo_nu (t := x) h).scale' (s := g * s) (Int.mul_ne_zero hg hs)
  rw [← Int.mul_assoc, ← Int.mul_assoc, ← e1, ← e2] at k
  exact k
theorem frest {x y : Int} (h : y ≠ 0) : (x - x.fdiv y * y).natAbs ≤ y.natAbs := by
  rcases Int.lt_or_gt_of_ne h with k | k
  · have e : x.fdiv y = (-x) / (-y) := by
      rw [(Int.neg_fdiv_neg x y).symm, Int.fdiv_eq_ediv_of_nonneg (-x) (by omega)]
    rw [e]
    have h1 := Int.mul_ediv_add_emod (-x) (-y)
    have h2 := Int.emod_nonneg (-x) (show (-y) ≠ 0 by omega)
    have h3 := Int.emod_lt_of_pos (-x) (show 0 < -y by omega)
    have h4 : -x / -y * y = -(-y * (-x / -y)) := by rw [Int.neg_mul, Int.neg_neg, Int.mul_comm]
    omega
  · have e : x.fdiv y = x / y := Int.fdiv_eq_ediv_of_nonneg x (by omega)
    rw [e]
    have h1 := Int.mul_ediv_add_emod x y
    have h2 := Int.emod_nonneg x (show y ≠ 0 by omega)
    have h3 := Int.emod_lt_of_pos x k
    have h4 : x / y * y = y * (x / y) := Int.mul_comm ..
    omega
theorem rest_le {t b t2 b2 : Int} (hb : 0 < b) (hb2 : 0 < b2) (h : t2 ≠ 0) : (rN t b t2 b2).natAbs ≤ (b * t2).natAbs := by
  have hy : b * t2 ≠ 0 := Int.mul_ne_zero (Int.ne_of_gt hb) h
  have eF : fQ t b t2 b2 = (t * b2).fdiv (b * t2) := (fdiv_nu hy).symm
  have h1 : (1 : Int) * b2 ≠ 0 := by omega
  have c := nu_cross (x := fQ t b t2 b2 * t2) h1
  have eT : rT t b t2 b2 = Nu (fQ t b t2 b2 * t2) (1 * b2) := rfl
  have eB : rB t b t2 b2 = De (fQ t b t2 b2 * t2) (1 * b2) := rfl
  rw [← eT, ← eB, Int.one_mul] at c
  have pB : 0 < rB t b t2 b2 := (lo_nu (t := fQ t b t2 b2 * t2) h1).pos
  have lB : (rB t b t2 b2).natAbs ≤ b2.natAbs := by
    have := de_le (fQ t b t2 b2 * t2) (1 * b2) h1
    rw [← eB, Int.one_mul] at this
    exact this
  have fr := frest (x := t * b2) hy
  rw [← eF] at fr
  have e : rN t b t2 b2 * b2 = rB t b t2 b2 * (t * b2 - fQ t b t2 b2 * (b * t2)) := by
    show (t * rB t b t2 b2 - rT t b t2 b2 * b) * b2 = _
    rw [Int.sub_mul, Int.mul_sub]
    have a1 : t * rB t b t2 b2 * b2 = rB t b t2 b2 * (t * b2) := by
      rw [Int.mul_comm t, Int.mul_assoc]
    have a2 : rT t b t2 b2 * b * b2 = rB t b t2 b2 * (fQ t b t2 b2 * (b * t2)) := by
      rw [Int.mul_assoc, Int.mul_comm b, ← Int.mul_assoc, c]
      rw [Int.mul_comm _ (rB t b t2 b2), Int.mul_assoc, Int.mul_assoc, Int.mul_comm t2]
    rw [a1, a2]
  have e2 : (rN t b t2 b2).natAbs * b2.natAbs = (rB t b t2 b2).natAbs * (t * b2 - fQ t b t2 b2 * (b * t2)).natAbs := by
    rw [← Int.natAbs_mul, e, Int.natAbs_mul]
  have p2 : 0 < b2.natAbs := by omega
  refine Nat.le_of_mul_le_mul_right (c := b2.natAbs) ?_ p2
  rw [e2, Nat.mul_comm]
  exact Nat.mul_le_mul fr lB
/-- the sizes of a rest -/
theorem sz_rest {t b t2 b2 : Int} {i j k : Nat} (hb : 0 < b) (hb2 : 0 < b2) (h : t2 ≠ 0) (zb : Sz i b) (z2 : Sz j t2) (zb2 : Sz k b2) : Sz (i + j) (Nu (rN t b t2 b2) (rD t b t2 b2)) ∧ Sz (i + k) (De (rN t b t2 b2) (rD t b t2 b2)) ∧ Lo (Nu (rN t b t2 b2) (rD t b t2 b2)) (De (rN t b t2 b2) (rD t b t2 b2)) := by
  have h1 : (1 : Int) * b2 ≠ 0 := by omega
  have eB : rB t b t2 b2 = De (fQ t b t2 b2 * t2) (1 * b2) := rfl
  have pB : 0 < rB t b t2 b2 := (lo_nu (t := fQ t b t2 b2 * t2) h1).pos
  have lB : (rB t b t2 b2).natAbs ≤ b2.natAbs := by
    have := de_le (fQ t b t2 b2 * t2) (1 * b2) h1
    rw [← eB, Int.one_mul] at this
    exact this
  have nD : rD t b t2 b2 ≠ 0 := Int.mul_ne_zero (Int.ne_of_gt hb) (Int.ne_of_gt pB)
  have zN : Sz (i + j) (rN t b t2 b2) := sz_le (sz_mul zb z2) (rest_le hb hb2 h)
  have zD : Sz (i + k) (rD t b t2 b2) := sz_mul zb (sz_le zb2 lB)
  exact ⟨sz_nu nD zN, sz_de nD zD, lo_nu nD⟩
end Ly

namespace Ly
open PySem PySem.Spec PyProof.Rows L2
section
variable {σ : L2.St} {H : Hp} {tt uu : TT} {b c : Bool} {D : Ends}
theorem i_andB {Q : Bool → Hp → Prop} (h1 : ∀ Q : Bool → Hp → Prop, Q b H → tt σ H Q) (h2 : ∀ Q : Bool → Hp → Prop, Q c H → uu σ H Q) (q : Q (b && c) H) : tAnd tt uu σ H Q := by
  refine h1 _ ?_
  show if b = true then uu σ H Q else Q false H
  cases b with
  | true => exact iteT (h2 _ q)
  | false => exact iteF q
theorem i_orB {Q : Bool → Hp → Prop} (h1 : ∀ Q : Bool → Hp → Prop, Q b H → tt σ H Q) (h2 : ∀ Q : Bool → Hp → Prop, Q c H → uu σ H Q) (q : Q (b || c) H) : tOr tt uu σ H Q := by
  refine h1 _ ?_
  show if b = true then Q true H else uu σ H Q
  cases b with
  | true => exact iteT q
  | false => exact iteF (h2 _ q)
theorem i_band {p q A B : Prop} [Decidable p] [Decidable q] (h1 : p → ¬ q → A) (h2 : B) : if (decide p && !decide q) = true then A else B := by
  by_cases hp : p
  · by_cases hq : q
    · rw [decide_eq_true hp, decide_eq_true hq]
      exact iteF h2
    · rw [decide_eq_true hp, decide_eq_false hq]
      exact iteT (h1 hp hq)
  · rw [decide_eq_false hp]
    exact iteF h2
/-! ### for .. in range(n) -/
def rFor (j : Nat) (tb : TS) (D : Ends) (σ : L2.St) : List V → Hp → Prop := fun vs H1 => ∃ k, vs = [.int k] ∧ -2 ^ 62 ≤ k ∧ k < 2 ^ 62 ∧ ∃ W : Nat → Nat → L2.St → Hp → Prop, (∃ m, W 0 m σ H1) ∧ ∀ (i m : Nat) (σ : L2.St) (H : Hp), W i m σ H → (Itr 0 k.toNat).stop i H ∧ D.nx σ H ∨ (Itr 0 k.toNat).go i H ∧ ∃ N, (∀ (σ' : L2.St) (H' : Hp), N σ' H' → ∃ m', m' < m ∧ W (i + 1) m' σ' H') ∧ ∀ (x : V) (H' : Hp), (Itr 0 k.toNat).yld i H x H' → gName j x σ H' fun σ2 H2 => tb { nx := N, rt := D.rt, bk := D.nx, ct := N } σ2 H2
theorem i_for {j : Nat} {tb : TS} {ta : TA} (q : ta σ H fun vs H1 => rFor j tb D σ vs H1) : tFor (iRng1 ta) (gName j) tb D σ H := q
theorem i_rfor {j : Nat} {tb : TS} {n : Int} (h0 : 0 ≤ n) (h1 : n ≤ 1000) (J : Nat → L2.St → Hp → Prop) (start : J 0 σ H)
    (step : ∀ (i : Nat) σ' H', (i : Int) < n → J i σ' H' → tb { nx := J (i + 1), rt := D.rt, bk := D.nx, ct := J (i + 1) } (σ'.set j (some (.int (i : Int)))) H')
    (fin : ∀ σ' H', J n.toNat σ' H' → D.nx σ' H') : rFor j tb D σ [.int n] H := by
  refine ⟨n, rfl, by omega, by omega, fun i m σ' H' => m = n.toNat - i ∧ i ≤ n.toNat ∧ J i σ' H', ⟨_, rfl, Nat.zero_le _, start⟩, ?_⟩
  rintro i m σ' H' ⟨rfl, hi, hJ⟩
  by_cases h : i < n.toNat
  · refine .inr ⟨h, J (i + 1), fun σ2 H2 h2 => ⟨_, ?_, rfl, h, h2⟩, ?_⟩
    · omega
    · rintro x H2 ⟨rfl, rfl⟩
      have e : (0 : Int) + (i : Int) = (i : Int) := Int.zero_add _
      rw [e]
      exact step i σ' H2 (by omega) hJ
  · have e : i = n.toNat := by omega
    subst e
    exact .inl ⟨Nat.le_refl _, fin σ' H' hJ⟩
end
end Ly
namespace Ly
open PySem PySem.Spec PyProof.Rows L2
theorem Num.nl {C : Addr} {H H' : Hp} {v : V} {t b : Int} (s : NL H H') (r : Num C H v t b) : Num C H' v t b := by
  rcases r with r | ⟨a, e, r⟩
  · exact .inl r
  · exact .inr ⟨a, e, r.nl s⟩
/-- all but one list stays -/
def KL (l : Addr) (H H' : Hp) : Prop := ∀ c o, c ≠ l → H c = some o → H' c = some o
theorem Same.kl {l : Addr} {H0 H H' : Hp} (k : KL l H H') (n : H0 l = none) (s : Same H0 H) : Same H0 H' := fun c o e => k c o (ne_of_none e n) (s _ _ e)
section
variable {K : PySem.W.Frag} {H : Hp} {Q : VK} {σ : L2.St} {D : Ends} {l : Addr} {xs : List V} {m : Nat} {v : V}
theorem i_getL (h : SqL K H l xs) (e : xs[m]? = some v) (q : Q v H) : rGetL K (.ref l) (.int m) H Q := ⟨l, xs, m, v, rfl, rfl, h, e, q⟩
theorem i_augS {to ti te : TE} {tget : V → V → Hp → VK → Prop} {tip : TIp} {tset : TSet} (q : to σ H fun o H1 => ti σ H1 fun i H2 => tget o i H2 fun x H3 => te σ H3 fun y H4 => tip x y H4 fun z H5 => tset o i z H5 fun H6 => D.nx σ H6) : tAugS to ti te tget tip tset D σ H := q
theorem i_aug {i : Nat} {x : V} {te : TE} {ti : TIp} (h : σ[i]? = some (some x)) (q : te σ H fun y H1 => ti x y H1 fun z H2 => D.nx (σ.set i (some z)) H2) : tAug i te ti D σ H := ⟨x, h, q⟩
theorem i_setL {R : Hp → Prop} {ys : List V} {i : Int} {j : Nat} (h : H l = some (.lst xs)) (e : ixN xs.length i = some j) (hy : xs.set j v = ys) (q : ∀ H', NL H H' → KL l H H' → H' l = some (.lst ys) → R H') : rSetL (.ref l) (.int i) v H R := by
  subst hy
  exact ⟨l, xs, i, j, rfl, rfl, h, e, q _ (NL.upd h) (fun c o n e => by rw [upd_ne n]; exact e) upd_same⟩
end
end Ly

namespace Ly
open PySem PySem.Spec PyProof.Rows L2
theorem str_ext {x y : Str} (h : x.cps.toList = y.cps.toList) : x = y := by
  cases x
  cases y
  congr 1
  exact Array.toList_inj.mp h
theorem app_toList (x y : Str) : (x ++ y).cps.toList = x.cps.toList ++ y.cps.toList := by
  show (x.cps ++ y.cps).toList = _
  exact Array.toList_append
theorem it_nat (n : Nat) : (It (n : Int)).cps.toList = TL.numL n := TL.tl_num n
theorem it_neg {n : Nat} (h : 0 < n) : (It (-(n : Int))).cps.toList = 45 :: TL.numL n := by
  have e : toString (-(n : Int)) = "-" ++ toString n := by
    cases n with
    | zero => omega
    | succ k => rfl
  have e2 : (Str.ofStringByList (toString n)).cps.toList = TL.numL n := by
    rw [← Str.ofString_eq_byList]
    exact TL.tl_num n
  unfold It
  rw [e, Str.ofString_eq_byList]
  unfold Str.ofStringByList at *
  simp only [String.toList_append, List.map_append]
  simp only [List.toList_toArray] at *
  rw [e2]
  rfl
/-- what stands ahead of the digits, and the digits -/
theorem it_cases (i : Int) : (0 ≤ i ∧ (It i).cps.toList = TL.numL i.natAbs) ∨ (i < 0 ∧ (It i).cps.toList = 45 :: TL.numL i.natAbs) := by
  rcases Int.lt_or_le i 0 with h | h
  · refine .inr ⟨h, ?_⟩
    have := it_neg (n := i.natAbs) (by omega)
    rw [show -(i.natAbs : Int) = i by omega] at this
    exact this
  · refine .inl ⟨h, ?_⟩
    have := it_nat i.natAbs
    rw [show (i.natAbs : Int) = i by omega] at this
    exact this
theorem it_free {i : Int} : 47 ∉ (It i).cps.toList := PyProof.Rows.int_text_free' 47 (by omega) i
theorem slash_cps : ("/" : Str).cps.toList = [47] := by decide +kernel
theorem minus_cps : ("-" : Str).cps.toList = [45] := by decide +kernel
theorem slash_one : ("/" : Str) = ⟨#[47]⟩ := by decide +kernel
/-! ### x.partition("/") -/
theorem split_one {l1 l2 m1 m2 : List Nat} {c : Nat} (h : l1 ++ c :: l2 = m1 ++ c :: m2) (h1 : c ∉ m1) (h2 : c ∉ m2) : l1 = m1 ∧ l2 = m2 := by
  induction l1 generalizing m1 with
  | nil =>
    cases m1 with
    | nil => exact ⟨rfl, (List.cons.inj h).2⟩
    | cons a m =>
      have := (List.cons.inj h).1
      subst this
      exact absurd (List.mem_cons_self ..) h1
  | cons a l ih =>
    cases m1 with
    | nil =>
      have e := (List.cons.inj h).2
      refine absurd ?_ h2
      rw [← e]
      simp
    | cons a' m =>
      have e := List.cons.inj h
      obtain ⟨e1, e2⟩ := ih e.2 (fun z => h1 (List.mem_cons_of_mem _ z))
      exact ⟨by rw [e.1, e1], e2⟩
theorem part_no {x : Str} (h : 47 ∉ x.cps.toList) : Txt.partition x ("/" : Str) = (x, Str.empty, Str.empty) := by
  have e := PyProof.Rows.empty_one x 47
  rw [decide_eq_false h, ← slash_one] at e
  unfold Txt.partition
  cases o : Builtin.Str.occurrences x ("/" : Str) 0 x.length 1 with
  | nil => rfl
  | cons i t =>
    rw [o] at e
    cases e
theorem part_yes {x p r : Str} (hx : x = p ++ ("/" : Str) ++ r) (h1 : 47 ∉ p.cps.toList) (h2 : 47 ∉ r.cps.toList) : Txt.partition x ("/" : Str) = (p, ("/" : Str), r) := by
  have mem : 47 ∈ x.cps.toList := by
    rw [hx, app_toList, app_toList, slash_cps]
    simp
  have e := PyProof.Rows.empty_one x 47
  rw [decide_eq_true mem, ← slash_one] at e
  have s := StrLaws.partition_sum x ("/" : Str)
  have y : (Txt.partition x ("/" : Str)).2.1 = ("/" : Str) := by
    unfold Txt.partition
    cases o : Builtin.Str.occurrences x ("/" : Str) 0 x.length 1 with
    | nil =>
      rw [o] at e
      cases e
    | cons i t => rfl
  rw [y] at s
  have l : (((Txt.partition x ("/" : Str)).1 ++ ("/" : Str)) ++ (Txt.partition x ("/" : Str)).2.2).cps.toList = x.cps.toList := congrArg (fun z : Str => z.cps.toList) s
  rw [hx, app_toList, app_toList, app_toList, app_toList, slash_cps] at l
  rw [List.append_assoc, List.append_assoc] at l
  obtain ⟨a1, a2⟩ := split_one l h1 h2
  rw [← hx] at a1 a2
  refine Prod.ext (str_ext a1) (Prod.ext y (str_ext a2))
/-! ### x.removeprefix("-") -/
theorem pre_no {x : Str} {c : Nat} {cs : List Nat} (h : x.cps.toList = c :: cs) (n : c ≠ 45) : Txt.removeprefix x ("-" : Str) = x := by
  unfold Txt.removeprefix
  have e : Builtin.Str.subAt x ("-" : Str) 0 = false := by
    unfold Builtin.Str.subAt
    rw [beq_eq_false_iff_ne]
    intro z
    have l := congrArg Array.toList z
    rw [minus_cps] at l
    rw [Array.toList_extract] at l
    have ml : ("-" : Str).length = 1 := by decide +kernel
    rw [ml] at l
    simp [h, List.extract] at l
    exact n l
  rw [if_neg (by rw [e]; exact Bool.false_ne_true)]
  rfl
theorem pre_yes {x : Str} {cs : List Nat} (h : x.cps.toList = 45 :: cs) : (Txt.removeprefix x ("-" : Str)).cps.toList = cs := by
  have ml : ("-" : Str).length = 1 := by decide +kernel
  have xl : x.length = cs.length + 1 := by
    show x.cps.size = _
    rw [← Array.length_toList, h]
    rfl
  have e : Builtin.Str.subAt x ("-" : Str) 0 = true := by
    unfold Builtin.Str.subAt
    rw [beq_iff_eq]
    apply Array.toList_inj.mp
    rw [minus_cps, Array.toList_extract, ml]
    simp [h, List.extract]
  unfold Txt.removeprefix
  rw [if_pos e, ml]
  unfold Txt.affix
  simp only
  rw [if_neg (by rw [xl]; simp)]
  unfold Builtin.Str.strSub
  simp only
  rw [Array.toList_extract, h, xl]
  simp [List.extract]
theorem same_upd {H : Hp} {p : Addr} {o : HO} (n : H p = none) : Same H (upd H p o) := fun c u e => by
  rw [upd_ne (ne_of_none e n)]
  exact e
end Ly

namespace Lw
open PySem PySem.Spec PyProof.Rows L2 Ly
local macro_rules | `(tactic| walk_at "rd") => `(tactic| first
  | ((with_reducible refine' i_var ?hv ?_); (case hv => exact rfl))
  | with_reducible refine i_c ?_
  | with_reducible refine i_op ?_
  | with_reducible refine i_cons ?_
  | with_reducible refine i_nil ?_
  | with_reducible refine i_cb ?_
  | with_reducible refine i_call ?_
  | with_reducible refine i_I0 ?_
  | with_reducible refine i_add_i ?_
  | with_reducible refine i_sub_i ?_
  | with_reducible refine i_md_i (by first | decide | assumption) ?_
  | ((with_reducible refine' i_md_i ?c ?_); rotate_left)
  | ((with_reducible refine' i_mul_i ?c ?_); rotate_left)
  | with_reducible refine i_fd_i (by decide) ?_
  | ((with_reducible refine' i_fd_i ?c ?_); rotate_left)
  | with_reducible refine i_int ?_
  | with_reducible refine i_abs ?_
  | with_reducible refine i_max2 ?_
  | with_reducible refine i_min2 ?_
  | with_reducible refine i_gcd ?_
  | with_reducible refine i_seq ?_
  | with_reducible refine i_if ?_
  | with_reducible refine i_asg ?_
  | with_reducible refine i_ret ?_
  | with_reducible refine i_drop ?_
  | with_reducible refine i_next ?_
  | with_reducible refine i_un ?_
  | with_reducible refine i_U ?_
  | ((with_reducible refine i_gname ?_); dsimp only [List.set])
  | with_reducible refine i_test ?_
  | with_reducible refine i_not ?_
  | with_reducible refine i_or ?_
  | with_reducible refine i_and ?_
  | with_reducible refine i_tb ?_
  | with_reducible refine i_andV ?_
  | with_reducible refine i_orV ?_
  | with_reducible refine i_notV ?_
  | with_reducible refine i_ifx ?_
  | with_reducible refine i_ext ?_
  | with_reducible refine i_exf ?_
  | with_reducible refine i_exn ?_
  | with_reducible refine i_itt ?_
  | with_reducible refine i_itf ?_
  | with_reducible refine i_gsub ?_
  | with_reducible refine i_nt ?_
  | with_reducible refine i_tup ?_
  | with_reducible refine i_lst ?_
  | with_reducible refine i_nf ?_
  | with_reducible refine i_isint ?_
  | ((with_reducible refine' i_top ?r ?_); (case r => walk_at "hp"))
  | ((with_reducible refine' i_bot ?r ?_); (case r => walk_at "hp"))
  | with_reducible refine i_fld ?_
  | with_reducible refine i_sfld ?_
  | with_reducible refine i_pp ?_
  | with_reducible refine i_meth ?_
  | with_reducible refine i_smeth ?_
  | with_reducible refine i_make ?_
  | with_reducible refine i_sl ?_
  | with_reducible refine i_noPart ?_
  | with_reducible refine i_part ?_
  | with_reducible refine i_smethK ?_
  | with_reducible refine i_sk1 ?_
  | with_reducible refine i_makeK ?_
  | with_reducible refine i_methK ?_
  | with_reducible refine i_mk11 ?_
  | ((with_reducible refine' i_rmk ?r ?h1 ?h2 ?_); (case r => walk_at "hp"); (case h1 => decide +kernel); (case h2 => decide +kernel))
  | with_reducible refine i_tpar ?_
  | ((with_reducible refine i_rpar ?_); dsimp only [List.set])
  | with_reducible refine i_eq_s rfl ?_
  | with_reducible refine i_ne_s rfl ?_
  | ((with_reducible refine' i_rtop ?r ?c ?n ?_); (case r => walk_at "hp"); (case c => assumption); (case n => assumption))
  | ((with_reducible refine' i_rbot ?r ?c ?n ?_); (case r => walk_at "hp"); (case c => assumption); (case n => assumption))
  | ((with_reducible refine' i_rpp ?r ?_); (case r => walk_at "hp"))
  | ((with_reducible refine' i_rmeth ?r ?h1 ?h2 ?_); (case r => walk_at "hp"); (case h1 => decide +kernel); (case h2 => decide +kernel))
  | ((with_reducible refine' i_ix_l ?hp ?ha ?_); (case hp => walk_at "hp"); (case ha => exact rfl))
  | ((with_reducible refine' i_len_l ?hp ?_); (case hp => walk_at "hp"))
  | ((with_reducible refine' i_ix_f0 ?hp ?_); (case hp => walk_at "hp"))
  | ((with_reducible refine' i_ix_f1 ?hp ?_); (case hp => walk_at "hp"))
  | ((with_reducible refine' i_ix_t ?hp ?ha ?_); (case hp => walk_at "hp"); (case ha => exact rfl)))
local macro_rules | `(tactic| walk_at "hp") => `(tactic| first
  | assumption
  | exact upd_same
  | exact SqL.of (by assumption)
  | (refine' Dr.tup (by assumption) ?hq; (case hq => walk_at "hp"))
  | (refine' FrL.same (by assumption) ?hq; (case hq => walk_at "hp"))
  | (refine' FracAt.same (by assumption) ?hq; (case hq => walk_at "hp"))
  | (refine' FracAt.nl (by assumption) ?hq; (case hq => walk_at "hp"))
  | (refine' RatAt.nl (by assumption) ?hq; (case hq => walk_at "hp"))
  | (refine' Num.nl (by assumption) ?hq; (case hq => walk_at "hp"))
  | (refine' FracAt.pk (by assumption) ?hq; (case hq => walk_at "hp"))
  | (refine' RatAt.pk (by assumption) ?hq; (case hq => walk_at "hp"))
  | (refine' Num.pk (by assumption) ?hq; (case hq => walk_at "hp"))
  | (refine' Dr.keep (by assumption) _ _ (by assumption) ?hq; (case hq => walk_at "hp"))
  | (refine' (show Same _ _ by assumption) _ _ ?hq; (case hq => walk_at "hp"))
  | (refine' RatAt.same (by assumption) ?hq; (case hq => walk_at "hp"))
  | (refine' Num.same (by assumption) ?hq; (case hq => walk_at "hp")))
local macro_rules | `(tactic| walk_at "sm") => `(tactic| first
  | assumption
  | exact Same.refl _
  | (refine' Same.kl (by assumption) (by assumption) ?aa; (case aa => walk_at "sm"))
  | (refine' Same.trans ?aa (by assumption); (case aa => walk_at "sm")))
local macro_rules | `(tactic| walk_at "dr") => `(tactic| first
  | assumption
  | (refine' Dr.same ?aa (by assumption); (case aa => walk_at "dr"))
  | (refine' Dr.trans ?aa (by assumption); (case aa => walk_at "dr")))

variable {W : Wd} {a : Ad}
theorem k_init (T : Txt W.K W.mg a) : ∃ (f : Addr) (fd : FuncData), FunD W.K "__init__" "Ratio.__init__" (defArgs s_Ratio_init) (defBody s_Ratio_init) (defScope s_Ratio_init) [.int 1] [] f fd ∧ Mk W.K a.Ratio f ∧ FnOk W.P W.w W.K W.mg W.base CX0 2 f fd ["self", "top", "bottom"] (spInit a.Ratio) := by
  obtain ⟨f, fd, F, M⟩ := T.d_Ratio_init.ex
  refine ⟨f, fd, F, M, F.ok sc_Ratio_init (fun vs H Q E ⟨x, dx, t, b, h, _⟩ => by rw [h]; rfl) fun cdv A outer s H vs Q E hr h => ?_⟩
  obtain ⟨x, dx, t, b, rfl, hx, hb, z1, z2, q⟩ := h
  have hg := G_pos (t := t) hb
  refine ⟨_, PSs.nox (pss_cons (ps_if (PW.pt (pw_or (pt_not (pt_val (pe_callB (r := rIsi W.K) call_isi (by rfl) T.b_isinstance (by decide +kernel) (pa_cons (pv 1) (pa_cons (pe_bltn (by rfl) T.b_int (by decide +kernel) (v := .ty "int") rfl) pa_nil))))) (pw_or1 (pt_val (pe_callB (r := rIsi W.K) call_isi (by rfl) T.b_isinstance (by decide +kernel) (pa_cons (pv 1) (pa_cons (pe_bltn (by rfl) T.b_bool (by decide +kernel) (v := .ty "bool") rfl) pa_nil))))))) (pss_one ps_never) pss_nil) (pss_cons (ps_if (PW.pt (pw_or (pt_not (pt_val (pe_callB (r := rIsi W.K) call_isi (by rfl) T.b_isinstance (by decide +kernel) (pa_cons (pv 2) (pa_cons (pe_bltn (by rfl) T.b_int (by decide +kernel) (v := .ty "int") rfl) pa_nil))))) (pw_or (pt_val (pe_callB (r := rIsi W.K) call_isi (by rfl) T.b_isinstance (by decide +kernel) (pa_cons (pv 2) (pa_cons (pe_bltn (by rfl) T.b_bool (by decide +kernel) (v := .ty "bool") rfl) pa_nil)))) (pw_or1 (pt_cmpR (r := rEqU W.K) (op_eqU hr.units) (pv 2) pe_int (nomark _)))))) (pss_one ps_never) pss_nil) (pss_cons (ps_set (i := 3) sc_Ratio_init.nd rfl (Or.inl rfl) (pe_ifExp (pt_cmpR op_gt (pv 2) pe_int (nomark _)) (pe_callBfun cr_gcd (by rfl) T.g_gcd (pa_cons (pv 1) (pa_cons (pv 2) pa_nil))) (pe_un un_neg (pe_callBfun cr_gcd (by rfl) T.g_gcd (pa_cons (pv 1) (pa_cons (pv 2) pa_nil)))))) (pss_cons (ps_fld (pv 0) (pe_op op_fdivX (pv 1) (pv 3)) rfl) (pss_one (ps_fld (pv 0) (pe_op op_fdivX (pv 2) (pv 3)) rfl)))))), ?_⟩
  refine i_start (σ' := [some (V.ref x), some (V.int t), some (V.int b), none]) rfl ?_
  repeat walk_at "rd"
  refine i_isi (b := true) (.base (.int t)) (by decide +kernel) ?_
  repeat walk_at "rd"
  refine i_isi (b := false) (.base (.int t)) (by decide +kernel) ?_
  repeat walk_at "rd"
  refine i_isi (b := true) (.base (.int b)) (by decide +kernel) ?_
  repeat walk_at "rd"
  refine i_isi (b := false) (.base (.int b)) (by decide +kernel) ?_
  repeat walk_at "rd"
  refine i_dec (fun z => (hb (V.int.inj z)).elim) (fun _ => ?_)
  repeat walk_at "rd"
  have e1 := nu_of (t := t) hb
  have e2 := de_of (t := t) hb
  have zg : Sz 8900 (G t b) := sz_le z2 (g_le t b hb)
  refine i_dec (fun h0 => ?_) (fun h0 => ?_)
  · rw [if_pos h0] at e1 e2
    repeat walk_at "rd"
    refine i_I (cdivx_sz (by omega) zg) ?_
    repeat walk_at "rd"
    rw [e1]
    refine ⟨x, a.Ratio, dx, [], rfl, hx, T.o_Ratio.cls, T.n_Ratio_top, by decide, ?_⟩
    repeat walk_at "rd"
    refine i_I (cdivx_sz (by omega) zg) ?_
    repeat walk_at "rd"
    rw [e2]
    refine ⟨x, a.Ratio, dx, _, rfl, upd_same, T.o_Ratio.cls, T.n_Ratio_bottom, (by show 1 < 1000; decide), ?_⟩
    rw [put_flds, upd_upd]
    exact q _ upd_same fun c o hc e => by
      rw [upd_ne hc]
      exact e
  · rw [if_neg h0] at e1 e2
    repeat walk_at "rd"
    refine i_I (cdivx_sz (by omega) (sz_neg zg)) ?_
    repeat walk_at "rd"
    rw [e1]
    refine ⟨x, a.Ratio, dx, [], rfl, hx, T.o_Ratio.cls, T.n_Ratio_top, by decide, ?_⟩
    repeat walk_at "rd"
    refine i_I (cdivx_sz (by omega) (sz_neg zg)) ?_
    repeat walk_at "rd"
    rw [e2]
    refine ⟨x, a.Ratio, dx, _, rfl, upd_same, T.o_Ratio.cls, T.n_Ratio_bottom, (by show 1 < 1000; decide), ?_⟩
    rw [put_flds, upd_upd]
    exact q _ upd_same fun c o hc e => by
      rw [upd_ne hc]
      exact e
theorem m_Ratio2 (T : Txt W.K W.mg a) : Mak W 2 "Ratio" a.Ratio (spInit a.Ratio) [] := by
  obtain ⟨f, fd, F, M, ok⟩ := k_init T
  obtain ⟨ds, d, b⟩ := F.binds1 (ps := ["self", "top", "bottom"]) 3 1 (by decide) (by decide) (fun T kV doc pm an cdv ct us its hl hi => match us, hl, its, hi with | [_, _, _], _, [_], _ => ⟨_, rfl, rfl⟩)
  exact ⟨f, fd, _, ds, M, ok, T.o_Ratio.mg, b, d⟩
theorem m_Ratio1 (T : Txt W.K W.mg a) : Mak W 2 "Ratio" a.Ratio (spInit a.Ratio) [.int 1] := by
  obtain ⟨f, fd, F, M, ok⟩ := k_init T
  obtain ⟨ds, d, b⟩ := F.binds1 (ps := ["self", "top", "bottom"]) 2 0 (by decide) (by decide) (fun T kV doc pm an cdv ct us its hl hi => match us, hl, its, hi with | [_, _], _, [_], _ => ⟨_, rfl, rfl⟩)
  exact ⟨f, fd, _, ds, M, ok, T.o_Ratio.mg, b, d⟩
theorem pp_top (T : Txt W.K W.mg a) : Pp W 1 a.Ratio "top" (spTop a.Ratio) := by
  refine pp_of T.d_Ratio_top sc_Ratio_top bd_Ratio_top (fun vs H Q E ⟨x, t, b, h, _⟩ => by rw [h]; rfl) fun f cdv A outer s H vs Q E hr h => ?_
  obtain ⟨x, t, b, rfl, r, q⟩ := h
  have cR := T.o_Ratio.cls
  have nT := T.n_Ratio_top
  refine ⟨_, (pss_one (ps_ret (pe_fld (pv 0) rfl))), ?_⟩
  refine i_start (σ' := [some (V.ref x)]) rfl ?_
  repeat walk_at "rd"
  exact q
theorem pp_bottom (T : Txt W.K W.mg a) : Pp W 1 a.Ratio "bottom" (spBot a.Ratio) := by
  refine pp_of T.d_Ratio_bottom sc_Ratio_bottom bd_Ratio_bottom (fun vs H Q E ⟨x, t, b, h, _⟩ => by rw [h]; rfl) fun f cdv A outer s H vs Q E hr h => ?_
  obtain ⟨x, t, b, rfl, r, q⟩ := h
  have cR := T.o_Ratio.cls
  have nB := T.n_Ratio_bottom
  refine ⟨_, (pss_one (ps_ret (pe_fld (pv 0) rfl))), ?_⟩
  refine i_start (σ' := [some (V.ref x)]) rfl ?_
  repeat walk_at "rd"
  exact q
theorem sm_of' (T : Txt W.K W.mg a) : BodyOk W 3 N_Ratio_of "Ratio.of" s_Ratio_of (spOf a.Ratio) := by
  intro f cdv A outer s H vs Q E hr h
  obtain ⟨v, t, b, rfl, n, z, q⟩ := h
  refine ⟨_, (pss_one (ps_ret (pe_ifExp (pt_val (pe_callB (r := rIsi W.K) call_isi (by rfl) T.b_isinstance (by decide +kernel) (pa_cons (pv 0) (pa_cons (pe_gn (v := .ref a.Ratio) (by rfl) T.o_Ratio.mg rfl) pa_nil)))) (pv 0) (pe_mak (m_Ratio1 T) hr (by decide) rfl (pa_cons (pv 0) pa_nil))))), ?_⟩
  refine i_start (σ' := [some v]) rfl ?_
  rcases n with ⟨rfl, rfl⟩ | ⟨x, rfl, r⟩
  · repeat walk_at "rd"
    refine i_isiO (b := false) (.base (.int t)) T.o_Ratio.kI ?_
    repeat walk_at "rd"
    exact i_mk1 (sz_mono z (by decide)) fun x H' _ s r => q x H' s r
  · obtain ⟨dx, e⟩ := r
    repeat walk_at "rd"
    refine i_isiO (b := true) (.base (.ins e T.o_Ratio.cls T.o_Ratio.cl (by with_unfolding_all rfl) (by with_unfolding_all rfl) T.o_Ratio.mo)) T.o_Ratio.kO ?_
    repeat walk_at "rd"
    exact q x H (Same.refl H) ⟨dx, e⟩
theorem sm_of (T : Txt W.K W.mg a) : Sm W 4 a.Ratio "of" (spOf a.Ratio) := Ly.sm_of T.d_Ratio_of sc_Ratio_of bd_Ratio_of (fun vs H Q E ⟨v, t, b, h, _⟩ => by rw [h]; rfl) (sm_of' T)
end Lw

namespace Lw
open PySem PySem.Spec PyProof.Rows L2 Ly
local macro_rules | `(tactic| walk_at "rd") => `(tactic| first
  | ((with_reducible refine' i_var ?hv ?_); (case hv => exact rfl))
  | with_reducible refine i_c ?_
  | with_reducible refine i_op ?_
  | with_reducible refine i_cons ?_
  | with_reducible refine i_nil ?_
  | with_reducible refine i_cb ?_
  | with_reducible refine i_call ?_
  | with_reducible refine i_I0 ?_
  | with_reducible refine i_add_i ?_
  | with_reducible refine i_sub_i ?_
  | with_reducible refine i_md_i (by first | decide | assumption) ?_
  | ((with_reducible refine' i_md_i ?c ?_); rotate_left)
  | ((with_reducible refine' i_mul_i ?c ?_); rotate_left)
  | with_reducible refine i_fd_i (by decide) ?_
  | ((with_reducible refine' i_fd_i ?c ?_); rotate_left)
  | with_reducible refine i_int ?_
  | with_reducible refine i_abs ?_
  | with_reducible refine i_max2 ?_
  | with_reducible refine i_min2 ?_
  | with_reducible refine i_gcd ?_
  | with_reducible refine i_seq ?_
  | with_reducible refine i_if ?_
  | with_reducible refine i_asg ?_
  | with_reducible refine i_ret ?_
  | with_reducible refine i_drop ?_
  | with_reducible refine i_next ?_
  | with_reducible refine i_un ?_
  | with_reducible refine i_U ?_
  | ((with_reducible refine i_gname ?_); dsimp only [List.set])
  | with_reducible refine i_test ?_
  | with_reducible refine i_not ?_
  | with_reducible refine i_or ?_
  | with_reducible refine i_and ?_
  | with_reducible refine i_tb ?_
  | with_reducible refine i_andV ?_
  | with_reducible refine i_orV ?_
  | with_reducible refine i_notV ?_
  | with_reducible refine i_ifx ?_
  | with_reducible refine i_ext ?_
  | with_reducible refine i_exf ?_
  | with_reducible refine i_exn ?_
  | with_reducible refine i_itt ?_
  | with_reducible refine i_itf ?_
  | with_reducible refine i_gsub ?_
  | with_reducible refine i_nt ?_
  | with_reducible refine i_tup ?_
  | with_reducible refine i_lst ?_
  | with_reducible refine i_nf ?_
  | with_reducible refine i_isint ?_
  | ((with_reducible refine' i_top ?r ?_); (case r => walk_at "hp"))
  | ((with_reducible refine' i_bot ?r ?_); (case r => walk_at "hp"))
  | with_reducible refine i_fld ?_
  | with_reducible refine i_sfld ?_
  | with_reducible refine i_pp ?_
  | with_reducible refine i_meth ?_
  | with_reducible refine i_smeth ?_
  | with_reducible refine i_make ?_
  | with_reducible refine i_sl ?_
  | with_reducible refine i_noPart ?_
  | with_reducible refine i_part ?_
  | with_reducible refine i_smethK ?_
  | with_reducible refine i_sk1 ?_
  | with_reducible refine i_makeK ?_
  | with_reducible refine i_methK ?_
  | with_reducible refine i_mk11 ?_
  | ((with_reducible refine' i_rmk ?r ?h1 ?h2 ?_); (case r => walk_at "hp"); (case h1 => decide +kernel); (case h2 => decide +kernel))
  | with_reducible refine i_tpar ?_
  | ((with_reducible refine i_rpar ?_); dsimp only [List.set])
  | with_reducible refine i_eq_s rfl ?_
  | with_reducible refine i_ne_s rfl ?_
  | ((with_reducible refine' i_rtop ?r ?c ?n ?_); (case r => walk_at "hp"); (case c => assumption); (case n => assumption))
  | ((with_reducible refine' i_rbot ?r ?c ?n ?_); (case r => walk_at "hp"); (case c => assumption); (case n => assumption))
  | ((with_reducible refine' i_rpp ?r ?_); (case r => walk_at "hp"))
  | ((with_reducible refine' i_rmeth ?r ?h1 ?h2 ?_); (case r => walk_at "hp"); (case h1 => decide +kernel); (case h2 => decide +kernel))
  | ((with_reducible refine' i_ix_l ?hp ?ha ?_); (case hp => walk_at "hp"); (case ha => exact rfl))
  | ((with_reducible refine' i_len_l ?hp ?_); (case hp => walk_at "hp"))
  | ((with_reducible refine' i_ix_f0 ?hp ?_); (case hp => walk_at "hp"))
  | ((with_reducible refine' i_ix_f1 ?hp ?_); (case hp => walk_at "hp"))
  | ((with_reducible refine' i_ix_t ?hp ?ha ?_); (case hp => walk_at "hp"); (case ha => exact rfl)))
local macro_rules | `(tactic| walk_at "hp") => `(tactic| first
  | assumption
  | exact upd_same
  | exact SqL.of (by assumption)
  | (refine' Dr.tup (by assumption) ?hq; (case hq => walk_at "hp"))
  | (refine' FrL.same (by assumption) ?hq; (case hq => walk_at "hp"))
  | (refine' FracAt.same (by assumption) ?hq; (case hq => walk_at "hp"))
  | (refine' FracAt.nl (by assumption) ?hq; (case hq => walk_at "hp"))
  | (refine' RatAt.nl (by assumption) ?hq; (case hq => walk_at "hp"))
  | (refine' Num.nl (by assumption) ?hq; (case hq => walk_at "hp"))
  | (refine' FracAt.pk (by assumption) ?hq; (case hq => walk_at "hp"))
  | (refine' RatAt.pk (by assumption) ?hq; (case hq => walk_at "hp"))
  | (refine' Num.pk (by assumption) ?hq; (case hq => walk_at "hp"))
  | (refine' Dr.keep (by assumption) _ _ (by assumption) ?hq; (case hq => walk_at "hp"))
  | (refine' (show Same _ _ by assumption) _ _ ?hq; (case hq => walk_at "hp"))
  | (refine' RatAt.same (by assumption) ?hq; (case hq => walk_at "hp"))
  | (refine' Num.same (by assumption) ?hq; (case hq => walk_at "hp")))
local macro_rules | `(tactic| walk_at "sm") => `(tactic| first
  | assumption
  | exact Same.refl _
  | (refine' Same.kl (by assumption) (by assumption) ?aa; (case aa => walk_at "sm"))
  | (refine' Same.trans ?aa (by assumption); (case aa => walk_at "sm")))
local macro_rules | `(tactic| walk_at "dr") => `(tactic| first
  | assumption
  | (refine' Dr.same ?aa (by assumption); (case aa => walk_at "dr"))
  | (refine' Dr.trans ?aa (by assumption); (case aa => walk_at "dr")))

variable {W : Wd} {a : Ad}
theorem mt_add (T : Txt W.K W.mg a) : Mt W 5 a.Ratio "__add__" (spBin a.Ratio aN dD) := by
  refine mt_of T.d_Ratio_add sc_Ratio_add bd_Ratio_add (fun vs H Q E ⟨x, v, t, b, t2, b2, h, _⟩ => by rw [h]; rfl) fun f cdv A outer s H vs Q E hr h => ?_
  obtain ⟨x, v, t, b, t2, b2, rfl, r, o, n, o2, q⟩ := h
  have cR := T.o_Ratio.cls
  have nT := T.n_Ratio_top
  have nB := T.n_Ratio_bottom
  refine ⟨_, (pss_cons (ps_set (i := 2) sc_Ratio_add.nd rfl (Or.inl rfl) (pe_sm (sm_of T) hr (by decide) (pe_gn (v := .ref a.Ratio) (by rfl) T.o_Ratio.mg rfl) (pa_cons (pv 1) pa_nil))) (pss_one (ps_ret (pe_mak (m_Ratio2 T) hr (by decide) rfl (pa_cons (pe_op op_addU (pe_op op_mulU (pe_fld (pv 0) rfl) (pe_pp T.o_Ratio.cls (pp_bottom T) hr (by decide) (pv 2) rfl)) (pe_op op_mulU (pe_pp T.o_Ratio.cls (pp_top T) hr (by decide) (pv 2) rfl) (pe_fld (pv 0) rfl))) (pa_cons (pe_op op_mulU (pe_fld (pv 0) rfl) (pe_pp T.o_Ratio.cls (pp_bottom T) hr (by decide) (pv 2) rfl)) pa_nil)))))), ?_⟩
  refine i_start (σ' := [some (V.ref x), some v, none]) rfl ?_
  repeat walk_at "rd"
  refine i_of n o2.zt fun y H1 s1 r1 => ?_
  repeat walk_at "rd"
  · refine i_mk2 (Int.ne_of_gt (Int.mul_pos o.lo.pos o2.lo.pos)) (sz_mono (sz_add (sz_mul o.zt o2.zb) (sz_mul o2.zt o.zb)) (by decide)) (sz_mono (sz_mul o.zb o2.zb) (by decide)) fun z H2 nz s2 r2 => ?_
    exact q z H2 (s1.free nz) (s1.trans s2) r2
  all_goals first
    | exact cmul_sz o.zt o2.zb
    | exact cmul_sz o2.zt o.zb
    | exact cmul_sz o.zb o2.zb
    | exact cmul_sz o.zt o2.zt
theorem mt_sub (T : Txt W.K W.mg a) : Mt W 5 a.Ratio "__sub__" (spBin a.Ratio sN dD) := by
  refine mt_of T.d_Ratio_sub sc_Ratio_sub bd_Ratio_sub (fun vs H Q E ⟨x, v, t, b, t2, b2, h, _⟩ => by rw [h]; rfl) fun f cdv A outer s H vs Q E hr h => ?_
  obtain ⟨x, v, t, b, t2, b2, rfl, r, o, n, o2, q⟩ := h
  have cR := T.o_Ratio.cls
  have nT := T.n_Ratio_top
  have nB := T.n_Ratio_bottom
  refine ⟨_, (pss_cons (ps_set (i := 2) sc_Ratio_sub.nd rfl (Or.inl rfl) (pe_sm (sm_of T) hr (by decide) (pe_gn (v := .ref a.Ratio) (by rfl) T.o_Ratio.mg rfl) (pa_cons (pv 1) pa_nil))) (pss_one (ps_ret (pe_mak (m_Ratio2 T) hr (by decide) rfl (pa_cons (pe_op op_subU (pe_op op_mulU (pe_fld (pv 0) rfl) (pe_pp T.o_Ratio.cls (pp_bottom T) hr (by decide) (pv 2) rfl)) (pe_op op_mulU (pe_pp T.o_Ratio.cls (pp_top T) hr (by decide) (pv 2) rfl) (pe_fld (pv 0) rfl))) (pa_cons (pe_op op_mulU (pe_fld (pv 0) rfl) (pe_pp T.o_Ratio.cls (pp_bottom T) hr (by decide) (pv 2) rfl)) pa_nil)))))), ?_⟩
  refine i_start (σ' := [some (V.ref x), some v, none]) rfl ?_
  repeat walk_at "rd"
  refine i_of n o2.zt fun y H1 s1 r1 => ?_
  repeat walk_at "rd"
  · refine i_mk2 (Int.ne_of_gt (Int.mul_pos o.lo.pos o2.lo.pos)) (sz_mono (sz_sub (sz_mul o.zt o2.zb) (sz_mul o2.zt o.zb)) (by decide)) (sz_mono (sz_mul o.zb o2.zb) (by decide)) fun z H2 nz s2 r2 => ?_
    exact q z H2 (s1.free nz) (s1.trans s2) r2
  all_goals first
    | exact cmul_sz o.zt o2.zb
    | exact cmul_sz o2.zt o.zb
    | exact cmul_sz o.zb o2.zb
    | exact cmul_sz o.zt o2.zt
theorem mt_mul (T : Txt W.K W.mg a) : Mt W 5 a.Ratio "__mul__" (spBin a.Ratio mN dD) := by
  refine mt_of T.d_Ratio_mul sc_Ratio_mul bd_Ratio_mul (fun vs H Q E ⟨x, v, t, b, t2, b2, h, _⟩ => by rw [h]; rfl) fun f cdv A outer s H vs Q E hr h => ?_
  obtain ⟨x, v, t, b, t2, b2, rfl, r, o, n, o2, q⟩ := h
  have cR := T.o_Ratio.cls
  have nT := T.n_Ratio_top
  have nB := T.n_Ratio_bottom
  refine ⟨_, (pss_cons (ps_set (i := 2) sc_Ratio_mul.nd rfl (Or.inl rfl) (pe_sm (sm_of T) hr (by decide) (pe_gn (v := .ref a.Ratio) (by rfl) T.o_Ratio.mg rfl) (pa_cons (pv 1) pa_nil))) (pss_one (ps_ret (pe_mak (m_Ratio2 T) hr (by decide) rfl (pa_cons (pe_op op_mulU (pe_fld (pv 0) rfl) (pe_pp T.o_Ratio.cls (pp_top T) hr (by decide) (pv 2) rfl)) (pa_cons (pe_op op_mulU (pe_fld (pv 0) rfl) (pe_pp T.o_Ratio.cls (pp_bottom T) hr (by decide) (pv 2) rfl)) pa_nil)))))), ?_⟩
  refine i_start (σ' := [some (V.ref x), some v, none]) rfl ?_
  repeat walk_at "rd"
  refine i_of n o2.zt fun y H1 s1 r1 => ?_
  repeat walk_at "rd"
  · refine i_mk2 (Int.ne_of_gt (Int.mul_pos o.lo.pos o2.lo.pos)) (sz_mono (sz_mul o.zt o2.zt) (by decide)) (sz_mono (sz_mul o.zb o2.zb) (by decide)) fun z H2 nz s2 r2 => ?_
    exact q z H2 (s1.free nz) (s1.trans s2) r2
  all_goals first
    | exact cmul_sz o.zt o2.zb
    | exact cmul_sz o2.zt o.zb
    | exact cmul_sz o.zb o2.zb
    | exact cmul_sz o.zt o2.zt
theorem mt_neg (T : Txt W.K W.mg a) : Mt W 5 a.Ratio "__neg__" (spUn a.Ratio fun t => -t) := by
  refine mt_of T.d_Ratio_neg sc_Ratio_neg bd_Ratio_neg (fun vs H Q E ⟨x, t, b, h, _⟩ => by rw [h]; rfl) fun f cdv A outer s H vs Q E hr h => ?_
  obtain ⟨x, t, b, rfl, r, o, q⟩ := h
  have cR := T.o_Ratio.cls
  have nT := T.n_Ratio_top
  have nB := T.n_Ratio_bottom
  refine ⟨_, (pss_one (ps_ret (pe_mak (m_Ratio2 T) hr (by decide) rfl (pa_cons (pe_un un_neg (pe_fld (pv 0) rfl)) (pa_cons (pe_fld (pv 0) rfl) pa_nil))))), ?_⟩
  refine i_start (σ' := [some (V.ref x)]) rfl ?_
  repeat walk_at "rd"
  refine i_mk2 (Int.ne_of_gt o.lo.pos) (sz_mono (sz_neg o.zt) (by decide)) (sz_mono o.zb (by decide)) fun z H2 nz s2 r2 => ?_
  exact q z H2 nz s2 r2
theorem mt_abs (T : Txt W.K W.mg a) : Mt W 5 a.Ratio "__abs__" (spUn a.Ratio fun t => if t < 0 then -t else t) := by
  refine mt_of T.d_Ratio_abs sc_Ratio_abs bd_Ratio_abs (fun vs H Q E ⟨x, t, b, h, _⟩ => by rw [h]; rfl) fun f cdv A outer s H vs Q E hr h => ?_
  obtain ⟨x, t, b, rfl, r, o, q⟩ := h
  have cR := T.o_Ratio.cls
  have nT := T.n_Ratio_top
  have nB := T.n_Ratio_bottom
  refine ⟨_, (pss_one (ps_ret (pe_mak (m_Ratio2 T) hr (by decide) rfl (pa_cons (pe_callB call_absU (by rfl) T.b_abs (by decide +kernel) (pa_cons (pe_fld (pv 0) rfl) pa_nil)) (pa_cons (pe_fld (pv 0) rfl) pa_nil))))), ?_⟩
  refine i_start (σ' := [some (V.ref x)]) rfl ?_
  repeat walk_at "rd"
  refine i_mk2 (Int.ne_of_gt o.lo.pos) (sz_mono (sz_absI o.zt) (by decide)) (sz_mono o.zb (by decide)) fun z H2 nz s2 r2 => ?_
  exact q z H2 nz s2 r2
theorem bo_over (T : Txt W.K W.mg a) : BodyOk W 4 N_Ratio_over "Ratio.over" s_Ratio_over (spOver a.Ratio) := by
  intro f cdv A outer s H vs Q E hr h
  obtain ⟨x, v, t, b, t2, b2, rfl, r, o, n, o2, hne, q⟩ := h
  have cR := T.o_Ratio.cls
  have nT := T.n_Ratio_top
  have nB := T.n_Ratio_bottom
  refine ⟨_, (pss_cons (ps_set (i := 2) sc_Ratio_over.nd rfl (Or.inl rfl) (pe_sm (sm_of T) hr (by decide) (pe_gn (v := .ref a.Ratio) (by rfl) T.o_Ratio.mg rfl) (pa_cons (pv 1) pa_nil))) (pss_cons (ps_if (pt_cmpR (r := rEqU W.K) (op_eqU hr.units) (pe_pp T.o_Ratio.cls (pp_top T) hr (by decide) (pv 2) rfl) pe_int (nomark _)) (pss_one ps_never) pss_nil) (pss_one (ps_ret (pe_mak (m_Ratio2 T) hr (by decide) rfl (pa_cons (pe_op op_mulU (pe_fld (pv 0) rfl) (pe_pp T.o_Ratio.cls (pp_bottom T) hr (by decide) (pv 2) rfl)) (pa_cons (pe_op op_mulU (pe_fld (pv 0) rfl) (pe_pp T.o_Ratio.cls (pp_top T) hr (by decide) (pv 2) rfl)) pa_nil))))))), ?_⟩
  refine i_start (σ' := [some (V.ref x), some v, none]) rfl ?_
  repeat walk_at "rd"
  refine i_of n o2.zt fun y H1 s1 r1 => ?_
  repeat walk_at "rd"
  refine i_dec (fun z => (hne (V.int.inj z)).elim) (fun _ => ?_)
  repeat walk_at "rd"
  · refine i_mk2 (Int.mul_ne_zero (Int.ne_of_gt o.lo.pos) hne) (sz_mono (sz_mul o.zt o2.zb) (by decide)) (sz_mono (sz_mul o.zb o2.zt) (by decide)) fun z H2 nz s2 r2 => ?_
    exact q z H2 (s1.free nz) (s1.trans s2) r2
  all_goals first
    | exact cmul_sz o.zt o2.zb
    | exact cmul_sz o.zb o2.zt
theorem len_over {C : Addr} : ∀ vs H Q E, spOver C vs H Q E → vs.length = ["self", "other"].length := fun vs H Q E ⟨x, v, t, b, t2, b2, h, _⟩ => by
  rw [h]
  rfl
theorem mt_over (T : Txt W.K W.mg a) : Mt W 5 a.Ratio "over" (spOver a.Ratio) := mt_of T.d_Ratio_over sc_Ratio_over bd_Ratio_over len_over (bo_over T)
theorem mtk_over (T : Txt W.K W.mg a) : MtK W 5 a.Ratio "over" 1 ["other"] (spOver a.Ratio) := mtk_of T.d_Ratio_over sc_Ratio_over (fun _ _ _ _ _ _ us ws hl hw => match us, ws, hl, hw with | [_], [_], _, _ => rfl) len_over (bo_over T)
theorem mt_floor (T : Txt W.K W.mg a) : Mt W 1 a.Ratio "floor" (spInt a.Ratio fun t b => t / b) := by
  refine mt_of T.d_Ratio_floor sc_Ratio_floor bd_Ratio_floor (fun vs H Q E ⟨x, t, b, h, _⟩ => by rw [h]; rfl) fun f cdv A outer s H vs Q E hr h => ?_
  obtain ⟨x, t, b, rfl, r, hb, z, q⟩ := h
  have cR := T.o_Ratio.cls
  have nT := T.n_Ratio_top
  have nB := T.n_Ratio_bottom
  refine ⟨_, (pss_one (ps_ret (pe_op op_fdivX (pe_fld (pv 0) rfl) (pe_fld (pv 0) rfl)))), ?_⟩
  refine i_start (σ' := [some (V.ref x)]) rfl ?_
  repeat walk_at "rd"
  refine i_I (cdivx_sz (by omega) z) ?_
  rw [Int.fdiv_eq_ediv_of_nonneg _ (by omega)]
  exact q
theorem mt_ceiling (T : Txt W.K W.mg a) : Mt W 1 a.Ratio "ceiling" (spInt a.Ratio fun t b => -(-t / b)) := by
  refine mt_of T.d_Ratio_ceiling sc_Ratio_ceiling bd_Ratio_ceiling (fun vs H Q E ⟨x, t, b, h, _⟩ => by rw [h]; rfl) fun f cdv A outer s H vs Q E hr h => ?_
  obtain ⟨x, t, b, rfl, r, hb, z, q⟩ := h
  have cR := T.o_Ratio.cls
  have nT := T.n_Ratio_top
  have nB := T.n_Ratio_bottom
  refine ⟨_, (pss_one (ps_ret (pe_un un_neg (pe_op op_fdivX (pe_un un_neg (pe_fld (pv 0) rfl)) (pe_fld (pv 0) rfl))))), ?_⟩
  refine i_start (σ' := [some (V.ref x)]) rfl ?_
  repeat walk_at "rd"
  refine i_I (cdivx_sz (by omega) z) ?_
  repeat walk_at "rd"
  rw [Int.fdiv_eq_ediv_of_nonneg _ (by omega)]
  exact q
theorem bo_compare (T : Txt W.K W.mg a) : BodyOk W 4 N_Ratio_compare "Ratio.compare" s_Ratio_compare (spCmp a.Ratio) := by
  intro f cdv A outer s H vs Q E hr h
  obtain ⟨x, v, t, b, t2, b2, rfl, r, o, n, o2, q⟩ := h
  have cR := T.o_Ratio.cls
  have nT := T.n_Ratio_top
  have nB := T.n_Ratio_bottom
  refine ⟨_, (pss_cons (ps_set (i := 2) sc_Ratio_compare.nd rfl (Or.inl rfl) (pe_sm (sm_of T) hr (by decide) (pe_gn (v := .ref a.Ratio) (by rfl) T.o_Ratio.mg rfl) (pa_cons (pv 1) pa_nil))) (pss_cons (ps_set (i := 3) sc_Ratio_compare.nd rfl (Or.inl rfl) (pe_op op_mulU (pe_fld (pv 0) rfl) (pe_pp T.o_Ratio.cls (pp_bottom T) hr (by decide) (pv 2) rfl))) (pss_cons (ps_set (i := 4) sc_Ratio_compare.nd rfl (Or.inl rfl) (pe_op op_mulU (pe_pp T.o_Ratio.cls (pp_top T) hr (by decide) (pv 2) rfl) (pe_fld (pv 0) rfl))) (pss_cons (ps_if (pt_cmpR op_lt (pv 3) (pv 4) (nomark _)) (pss_one (ps_ret (pe_un un_neg pe_int))) pss_nil) (pss_one (ps_ret (pe_ifExp (pt_cmpR op_gt (pv 3) (pv 4) (nomark _)) pe_int pe_int))))))), ?_⟩
  refine i_start (σ' := [some (V.ref x), some v, none, none, none]) rfl ?_
  repeat walk_at "rd"
  refine i_of n o2.zt fun y H1 s1 r1 => ?_
  have q1 := q H1 s1
  unfold cmpI at q1
  repeat walk_at "rd"
  · refine i_dec (fun h0 => ?_) (fun h0 => ?_)
    · rw [if_pos h0] at q1
      repeat walk_at "rd"
      exact q1
    · rw [if_neg h0] at q1
      repeat walk_at "rd"
      refine i_dec (fun h2 => ?_) (fun h2 => ?_)
      · rw [if_pos h2] at q1
        repeat walk_at "rd"
        exact q1
      · rw [if_neg h2] at q1
        repeat walk_at "rd"
        exact q1
  all_goals first
    | exact cmul_sz o.zt o2.zb
    | exact cmul_sz o2.zt o.zb
theorem len_compare {C : Addr} : ∀ vs H Q E, spCmp C vs H Q E → vs.length = ["self", "other"].length := fun vs H Q E ⟨x, v, t, b, t2, b2, h, _⟩ => by
  rw [h]
  rfl
theorem mt_compare (T : Txt W.K W.mg a) : Mt W 5 a.Ratio "compare" (spCmp a.Ratio) := mt_of T.d_Ratio_compare sc_Ratio_compare bd_Ratio_compare len_compare (bo_compare T)
theorem mtk_compare (T : Txt W.K W.mg a) : MtK W 5 a.Ratio "compare" 1 ["other"] (spCmp a.Ratio) := mtk_of T.d_Ratio_compare sc_Ratio_compare (fun _ _ _ _ _ _ us ws hl hw => match us, ws, hl, hw with | [_], [_], _, _ => rfl) len_compare (bo_compare T)
end Lw

namespace Lw
open PySem PySem.Spec PyProof.Rows L2 Ly
local macro_rules | `(tactic| walk_at "rd") => `(tactic| first
  | ((with_reducible refine' i_var ?hv ?_); (case hv => exact rfl))
  | with_reducible refine i_c ?_
  | with_reducible refine i_op ?_
  | with_reducible refine i_cons ?_
  | with_reducible refine i_nil ?_
  | with_reducible refine i_cb ?_
  | with_reducible refine i_call ?_
  | with_reducible refine i_I0 ?_
  | with_reducible refine i_add_i ?_
  | with_reducible refine i_sub_i ?_
  | with_reducible refine i_md_i (by first | decide | assumption) ?_
  | ((with_reducible refine' i_md_i ?c ?_); rotate_left)
  | ((with_reducible refine' i_mul_i ?c ?_); rotate_left)
  | with_reducible refine i_fd_i (by decide) ?_
  | ((with_reducible refine' i_fd_i ?c ?_); rotate_left)
  | with_reducible refine i_int ?_
  | with_reducible refine i_abs ?_
  | with_reducible refine i_max2 ?_
  | with_reducible refine i_min2 ?_
  | with_reducible refine i_gcd ?_
  | with_reducible refine i_seq ?_
  | with_reducible refine i_if ?_
  | with_reducible refine i_asg ?_
  | with_reducible refine i_ret ?_
  | with_reducible refine i_drop ?_
  | with_reducible refine i_next ?_
  | with_reducible refine i_un ?_
  | with_reducible refine i_U ?_
  | ((with_reducible refine i_gname ?_); dsimp only [List.set])
  | with_reducible refine i_test ?_
  | with_reducible refine i_not ?_
  | with_reducible refine i_or ?_
  | with_reducible refine i_and ?_
  | with_reducible refine i_tb ?_
  | with_reducible refine i_andV ?_
  | with_reducible refine i_orV ?_
  | with_reducible refine i_notV ?_
  | with_reducible refine i_ifx ?_
  | with_reducible refine i_ext ?_
  | with_reducible refine i_exf ?_
  | with_reducible refine i_exn ?_
  | with_reducible refine i_itt ?_
  | with_reducible refine i_itf ?_
  | with_reducible refine i_gsub ?_
  | with_reducible refine i_nt ?_
  | with_reducible refine i_tup ?_
  | with_reducible refine i_lst ?_
  | with_reducible refine i_nf ?_
  | with_reducible refine i_isint ?_
  | ((with_reducible refine' i_top ?r ?_); (case r => walk_at "hp"))
  | ((with_reducible refine' i_bot ?r ?_); (case r => walk_at "hp"))
  | with_reducible refine i_fld ?_
  | with_reducible refine i_sfld ?_
  | with_reducible refine i_pp ?_
  | with_reducible refine i_meth ?_
  | with_reducible refine i_smeth ?_
  | with_reducible refine i_make ?_
  | with_reducible refine i_sl ?_
  | with_reducible refine i_noPart ?_
  | with_reducible refine i_part ?_
  | with_reducible refine i_smethK ?_
  | with_reducible refine i_sk1 ?_
  | with_reducible refine i_makeK ?_
  | with_reducible refine i_methK ?_
  | with_reducible refine i_mk11 ?_
  | ((with_reducible refine' i_rmk ?r ?h1 ?h2 ?_); (case r => walk_at "hp"); (case h1 => decide +kernel); (case h2 => decide +kernel))
  | with_reducible refine i_tpar ?_
  | ((with_reducible refine i_rpar ?_); dsimp only [List.set])
  | with_reducible refine i_eq_s rfl ?_
  | with_reducible refine i_ne_s rfl ?_
  | ((with_reducible refine' i_rtop ?r ?c ?n ?_); (case r => walk_at "hp"); (case c => assumption); (case n => assumption))
  | ((with_reducible refine' i_rbot ?r ?c ?n ?_); (case r => walk_at "hp"); (case c => assumption); (case n => assumption))
  | ((with_reducible refine' i_rpp ?r ?_); (case r => walk_at "hp"))
  | ((with_reducible refine' i_rmeth ?r ?h1 ?h2 ?_); (case r => walk_at "hp"); (case h1 => decide +kernel); (case h2 => decide +kernel))
  | ((with_reducible refine' i_ix_l ?hp ?ha ?_); (case hp => walk_at "hp"); (case ha => exact rfl))
  | ((with_reducible refine' i_len_l ?hp ?_); (case hp => walk_at "hp"))
  | ((with_reducible refine' i_ix_f0 ?hp ?_); (case hp => walk_at "hp"))
  | ((with_reducible refine' i_ix_f1 ?hp ?_); (case hp => walk_at "hp"))
  | ((with_reducible refine' i_ix_t ?hp ?ha ?_); (case hp => walk_at "hp"); (case ha => exact rfl)))
local macro_rules | `(tactic| walk_at "hp") => `(tactic| first
  | assumption
  | exact upd_same
  | exact SqL.of (by assumption)
  | (refine' Dr.tup (by assumption) ?hq; (case hq => walk_at "hp"))
  | (refine' FrL.same (by assumption) ?hq; (case hq => walk_at "hp"))
  | (refine' FracAt.same (by assumption) ?hq; (case hq => walk_at "hp"))
  | (refine' FracAt.nl (by assumption) ?hq; (case hq => walk_at "hp"))
  | (refine' RatAt.nl (by assumption) ?hq; (case hq => walk_at "hp"))
  | (refine' Num.nl (by assumption) ?hq; (case hq => walk_at "hp"))
  | (refine' FracAt.pk (by assumption) ?hq; (case hq => walk_at "hp"))
  | (refine' RatAt.pk (by assumption) ?hq; (case hq => walk_at "hp"))
  | (refine' Num.pk (by assumption) ?hq; (case hq => walk_at "hp"))
  | (refine' Dr.keep (by assumption) _ _ (by assumption) ?hq; (case hq => walk_at "hp"))
  | (refine' (show Same _ _ by assumption) _ _ ?hq; (case hq => walk_at "hp"))
  | (refine' RatAt.same (by assumption) ?hq; (case hq => walk_at "hp"))
  | (refine' Num.same (by assumption) ?hq; (case hq => walk_at "hp")))
local macro_rules | `(tactic| walk_at "sm") => `(tactic| first
  | assumption
  | exact Same.refl _
  | (refine' Same.kl (by assumption) (by assumption) ?aa; (case aa => walk_at "sm"))
  | (refine' Same.trans ?aa (by assumption); (case aa => walk_at "sm")))
local macro_rules | `(tactic| walk_at "dr") => `(tactic| first
  | assumption
  | (refine' Dr.same ?aa (by assumption); (case aa => walk_at "dr"))
  | (refine' Dr.trans ?aa (by assumption); (case aa => walk_at "dr")))

variable {W : Wd} {a : Ad}
theorem mt_radd (T : Txt W.K W.mg a) : Mt W 7 a.Ratio "__radd__" (spRev a.Ratio aN dD) := by
  refine mt_of T.d_Ratio_radd sc_Ratio_radd bd_Ratio_radd (fun vs H Q E ⟨x, i, t, b, h, _⟩ => by rw [h]; rfl) fun f cdv A outer s H vs Q E hr h => ?_
  obtain ⟨x, i, t, b, rfl, r, o, z, q⟩ := h
  refine ⟨_, (pss_one (ps_ret (pe_op (opm2 (op := .Add) (mt_add T) T.o_Ratio hr (by decide) (by decide +kernel)) (pe_sm (sm_of T) hr (by decide) (pe_gn (v := .ref a.Ratio) (by rfl) T.o_Ratio.mg rfl) (pa_cons (pv 1) pa_nil)) (pv 0)))), ?_⟩
  refine i_start (σ' := [some (V.ref x), some (V.int i)]) rfl ?_
  repeat walk_at "rd"
  refine i_of (num_int i) z fun y H1 s1 r1 => ?_
  repeat walk_at "rd"
  exact i_own2 r1 (r.same s1) (ok_int z) o (pR_same s1 q)
theorem mt_rsub (T : Txt W.K W.mg a) : Mt W 7 a.Ratio "__rsub__" (spRev a.Ratio sN dD) := by
  refine mt_of T.d_Ratio_rsub sc_Ratio_rsub bd_Ratio_rsub (fun vs H Q E ⟨x, i, t, b, h, _⟩ => by rw [h]; rfl) fun f cdv A outer s H vs Q E hr h => ?_
  obtain ⟨x, i, t, b, rfl, r, o, z, q⟩ := h
  refine ⟨_, (pss_one (ps_ret (pe_op (opm2 (op := .Sub) (mt_sub T) T.o_Ratio hr (by decide) (by decide +kernel)) (pe_sm (sm_of T) hr (by decide) (pe_gn (v := .ref a.Ratio) (by rfl) T.o_Ratio.mg rfl) (pa_cons (pv 1) pa_nil)) (pv 0)))), ?_⟩
  refine i_start (σ' := [some (V.ref x), some (V.int i)]) rfl ?_
  repeat walk_at "rd"
  refine i_of (num_int i) z fun y H1 s1 r1 => ?_
  repeat walk_at "rd"
  exact i_own2 r1 (r.same s1) (ok_int z) o (pR_same s1 q)
theorem mt_rmul (T : Txt W.K W.mg a) : Mt W 7 a.Ratio "__rmul__" (spRev a.Ratio mN dD) := by
  refine mt_of T.d_Ratio_rmul sc_Ratio_rmul bd_Ratio_rmul (fun vs H Q E ⟨x, i, t, b, h, _⟩ => by rw [h]; rfl) fun f cdv A outer s H vs Q E hr h => ?_
  obtain ⟨x, i, t, b, rfl, r, o, z, q⟩ := h
  refine ⟨_, (pss_one (ps_ret (pe_op (opm2 (op := .Mult) (mt_mul T) T.o_Ratio hr (by decide) (by decide +kernel)) (pe_sm (sm_of T) hr (by decide) (pe_gn (v := .ref a.Ratio) (by rfl) T.o_Ratio.mg rfl) (pa_cons (pv 1) pa_nil)) (pv 0)))), ?_⟩
  refine i_start (σ' := [some (V.ref x), some (V.int i)]) rfl ?_
  repeat walk_at "rd"
  refine i_of (num_int i) z fun y H1 s1 r1 => ?_
  repeat walk_at "rd"
  exact i_own2 r1 (r.same s1) (ok_int z) o (pR_same s1 q)
theorem mt_floordiv (T : Txt W.K W.mg a) : Mt W 7 a.Ratio "__floordiv__" (spBinG a.Ratio nz4 (pI fQ)) := by
  refine mt_of T.d_Ratio_floordiv sc_Ratio_floordiv bd_Ratio_floordiv (fun vs H Q E ⟨x, v, t, b, t2, b2, h, _⟩ => by rw [h]; rfl) fun f cdv A outer s H vs Q E hr h => ?_
  obtain ⟨x, v, t, b, t2, b2, rfl, r, o, n, o2, p, q⟩ := h
  have hne : t2 ≠ 0 := p
  have hD : oD t b t2 b2 ≠ 0 := Int.mul_ne_zero (Int.ne_of_gt o.lo.pos) hne
  refine ⟨_, (pss_one (ps_ret (pe_mt0 T.o_Ratio.cls (mt_floor T) hr (by decide) (pe_mt T.o_Ratio.cls (mt_over T) hr (by decide) (pv 0) (pa_cons (pv 1) pa_nil))))), ?_⟩
  refine i_start (σ' := [some (V.ref x), some v]) rfl ?_
  repeat walk_at "rd"
  refine ⟨x, v, t, b, t2, b2, rfl, r, o, n, o2, hne, fun y H1 ny s1 r1 => ?_⟩
  repeat walk_at "rd"
  exact ⟨y, _, _, rfl, r1, (lo_nu hD).pos, sz_mono (sz_de hD (sz_mul o.zb o2.zt)) (by decide), q H1 s1⟩
theorem mt_rfloordiv (T : Txt W.K W.mg a) : Mt W 9 a.Ratio "__rfloordiv__" (spRevG a.Ratio nz4 (pI fQ)) := by
  refine mt_of T.d_Ratio_rfloordiv sc_Ratio_rfloordiv bd_Ratio_rfloordiv (fun vs H Q E ⟨x, i, t, b, h, _⟩ => by rw [h]; rfl) fun f cdv A outer s H vs Q E hr h => ?_
  obtain ⟨x, i, t, b, rfl, r, o, z, p, q⟩ := h
  refine ⟨_, (pss_one (ps_ret (pe_op (opm2 (op := .FloorDiv) (mt_floordiv T) T.o_Ratio hr (by decide) (by decide +kernel)) (pe_sm (sm_of T) hr (by decide) (pe_gn (v := .ref a.Ratio) (by rfl) T.o_Ratio.mg rfl) (pa_cons (pv 1) pa_nil)) (pv 0)))), ?_⟩
  refine i_start (σ' := [some (V.ref x), some (V.int i)]) rfl ?_
  repeat walk_at "rd"
  refine i_of (num_int i) z fun y H1 s1 r1 => ?_
  repeat walk_at "rd"
  exact i_own2G r1 (r.same s1) (ok_int z) o p (pI_same s1 q)
theorem mt_mod (T : Txt W.K W.mg a) : Mt W 12 a.Ratio "__mod__" (spBinG a.Ratio pM (pR a.Ratio rN rD)) := by
  refine mt_of T.d_Ratio_mod sc_Ratio_mod bd_Ratio_mod (fun vs H Q E ⟨x, v, t, b, t2, b2, h, _⟩ => by rw [h]; rfl) fun f cdv A outer s H vs Q E hr h => ?_
  obtain ⟨x, v, t, b, t2, b2, rfl, r, o, n, o2, ⟨hne, y1, y2, y3, y4⟩, q⟩ := h
  have hD : oD t b t2 b2 ≠ 0 := Int.mul_ne_zero (Int.ne_of_gt o.lo.pos) hne
  have zf : Sz 2600 (fQ t b t2 b2) := sz_ediv (sz_nu hD (sz_mul y1 y4))
  have zfo : Ok4 (fQ t b t2 b2) 1 := ok_int (sz_mono zf (by decide))
  have hd2 : dD (fQ t b t2 b2) 1 t2 b2 ≠ 0 := Int.mul_ne_zero (by decide) (Int.ne_of_gt o2.lo.pos)
  have zr : Ok4 (rT t b t2 b2) (rB t b t2 b2) := ⟨lo_nu hd2, sz_mono (sz_nu hd2 (sz_mul zf y3)) (by decide), sz_mono (sz_de hd2 (sz_mul (sz_1 (n := 1)) y4)) (by decide)⟩
  refine ⟨_, (pss_one (ps_ret (pe_op (op_subN (mt_sub T) (mt_rsub T) T.o_Ratio hr (by decide) (by decide)) (pv 0) (pe_op (opr_or op_mulU (op_mulN (mt_mul T) (mt_rmul T) T.o_Ratio hr (by decide) (by decide))) (pe_op (op_fdN (mt_floordiv T) (mt_rfloordiv T) T.o_Ratio hr (by decide) (by decide)) (pv 0) (pv 1)) (pv 1))))), ?_⟩
  refine i_start (σ' := [some (V.ref x), some v]) rfl ?_
  repeat walk_at "rd"
  refine i_numG r.num n o o2 (.inl ⟨x, rfl⟩) hne (fun H1 s1 => ?_)
  repeat walk_at "rd"
  rcases _root_.id n with ⟨rfl, rfl⟩ | ⟨c, rfl, rc⟩
  · have e1 : rT t b t2 1 = fQ t b t2 1 * t2 := by
      have z := (lo_int (fQ t b t2 1 * t2)).nu
      exact z
    have e2 : rB t b t2 1 = 1 := by
      have z := (lo_int (fQ t b t2 1 * t2)).de
      exact z
    refine .inl (i_mul_i (cmul_sz zf y3) ?_)
    refine i_num (r.same s1).num (num_int _) o (ok_int (sz_mono (sz_mul zf y3) (by decide))) (.inl ⟨x, rfl⟩) (pR_same s1 ?_)
    intro y H2 ny s2 r2
    refine q y H2 ny s2 ?_
    unfold rN rD
    rw [e1, e2]
    exact r2
  · refine .inr (i_num (num_int _) (n.same s1) zfo o2 (.inr ⟨c, rfl⟩) fun y H2 ny s2 r2 => ?_)
    refine i_num (r.same (s1.trans s2)).num (show Num a.Ratio H2 (.ref y) (rT t b t2 b2) (rB t b t2 b2) from r2.num) o zr (.inl ⟨x, rfl⟩) (pR_same (s1.trans s2) ?_)
    exact q
theorem mt_rmod (T : Txt W.K W.mg a) : Mt W 14 a.Ratio "__rmod__" (spRevG a.Ratio pM (pR a.Ratio rN rD)) := by
  refine mt_of T.d_Ratio_rmod sc_Ratio_rmod bd_Ratio_rmod (fun vs H Q E ⟨x, i, t, b, h, _⟩ => by rw [h]; rfl) fun f cdv A outer s H vs Q E hr h => ?_
  obtain ⟨x, i, t, b, rfl, r, o, z, p, q⟩ := h
  refine ⟨_, (pss_one (ps_ret (pe_op (opm2 (op := .Mod) (mt_mod T) T.o_Ratio hr (by decide) (by decide +kernel)) (pe_sm (sm_of T) hr (by decide) (pe_gn (v := .ref a.Ratio) (by rfl) T.o_Ratio.mg rfl) (pa_cons (pv 1) pa_nil)) (pv 0)))), ?_⟩
  refine i_start (σ' := [some (V.ref x), some (V.int i)]) rfl ?_
  repeat walk_at "rd"
  refine i_of (num_int i) z fun y H1 s1 r1 => ?_
  repeat walk_at "rd"
  exact i_own2G r1 (r.same s1) (ok_int z) o p (pR_same s1 q)
theorem mt_eq (T : Txt W.K W.mg a) : Mt W 1 a.Ratio "__eq__" (spREq a.Ratio) := by
  refine mt_of T.d_Ratio_eq sc_Ratio_eq bd_Ratio_eq (fun vs H Q E ⟨x, v, t, b, t2, b2, h, _⟩ => by rw [h]; rfl) fun f cdv A outer s H vs Q E hr h => ?_
  obtain ⟨x, v, t, b, t2, b2, rfl, r, n, q⟩ := h
  have cR := T.o_Ratio.cls
  have nT := T.n_Ratio_top
  have nB := T.n_Ratio_bottom
  refine ⟨_, (pss_one (ps_ret (pe_and (pe_callB (r := rIsi W.K) call_isi (by rfl) T.b_isinstance (by decide +kernel) (pa_cons (pv 1) (pa_cons (pe_gn (v := .ref a.Ratio) (by rfl) T.o_Ratio.mg rfl) pa_nil))) (pe_and (pe_cmpR (r := rEqU W.K) (op_eqU hr.units) (pe_fld (pv 0) rfl) (pe_fld (pv 1) rfl) (nomark _)) (pe_one (pe_cmpR (r := rEqU W.K) (op_eqU hr.units) (pe_fld (pv 0) rfl) (pe_fld (pv 1) rfl) (nomark _))))))), ?_⟩
  refine i_start (σ' := [some (V.ref x), some v]) rfl ?_
  rcases n with ⟨rfl, rfl⟩ | ⟨y, rfl, r2⟩
  · repeat walk_at "rd"
    refine i_isiO (b := false) (.base (.int t2)) T.o_Ratio.kI ?_
    repeat walk_at "rd"
    exact q
  · obtain ⟨dx, e⟩ := _root_.id r2
    repeat walk_at "rd"
    refine i_isiO (b := true) (.base (.ins e T.o_Ratio.cls T.o_Ratio.cl (by with_unfolding_all rfl) (by with_unfolding_all rfl) T.o_Ratio.mo)) T.o_Ratio.kO ?_
    repeat walk_at "rd"
    refine i_dec (fun h1 => ?_) (fun h1 => ?_)
    · repeat walk_at "rd"
      rw [show decide (V.int b = V.int b2) = (isRef (V.ref y) && (decide (t = t2) && decide (b = b2))) by
        rw [decide_eq_true (V.int.inj h1), dec_int]
        simp [isRef]
        rfl]
      exact q
    · rw [decide_eq_false (fun z => h1 (by rw [z]))] at q
      exact q
theorem mt_str (T : Txt W.K W.mg a) : Mt W 1 a.Ratio "__str__" (spTxt a.Ratio Rt) := by
  refine mt_of T.d_Ratio_str sc_Ratio_str bd_Ratio_str (fun vs H Q E ⟨x, t, b, h, _⟩ => by rw [h]; rfl) fun f cdv A outer s H vs Q E hr h => ?_
  obtain ⟨x, t, b, rfl, r, z1, z2, q⟩ := h
  have l1 := it_len z1
  have l2 := it_len z2
  have ls : ("/" : Str).length = 1 := by decide +kernel
  unfold Rt at q
  have cR := T.o_Ratio.cls
  have nT := T.n_Ratio_top
  have nB := T.n_Ratio_bottom
  refine ⟨_, (pss_cons (ps_if (pt_cmpR (r := rEqU W.K) (op_eqU hr.units) (pe_fld (pv 0) rfl) pe_int (nomark _)) (pss_one (ps_ret (pe_callTy call_strU (by rfl) T.b_str (by decide +kernel) (pa_cons (pe_fld (pv 0) rfl) pa_nil)))) pss_nil) (pss_one (ps_ret (pe_joined (.cons (pe_fmt (pe_fld (pv 0) rfl)) (.cons pe_str (.cons (pe_fmt (pe_fld (pv 0) rfl)) .nil))))))), ?_⟩
  refine i_start (σ' := [some (V.ref x)]) rfl ?_
  repeat walk_at "rd"
  refine i_dec (fun h1 => ?_) (fun h1 => ?_)
  · rw [if_pos (V.int.inj h1)] at q
    repeat walk_at "rd"
    exact i_str_i z1 q
  · rw [if_neg (fun z => h1 (by rw [z]))] at q
    repeat walk_at "rd"
    refine i_js ?_
    repeat walk_at "rd"
    refine i_fmt ?_
    repeat walk_at "rd"
    refine i_fmt_i z1 ⟨_, rfl, ?_, ?_⟩
    · rw [emp_app]
      exact sl_of (by omega)
    refine i_js ⟨_, rfl, ?_, ?_⟩
    · rw [emp_app, app_len, ls]
      exact sl_of (by omega)
    refine i_js ?_
    refine i_fmt ?_
    repeat walk_at "rd"
    refine i_fmt_i z2 ⟨_, rfl, ?_, ?_⟩
    · rw [emp_app, app_len, app_len, ls]
      exact sl_of (by omega)
    refine i_js0 ?_
    rw [emp_app]
    exact q
theorem mt_repr (T : Txt W.K W.mg a) : Mt W 1 a.Ratio "__repr__" (spTxt a.Ratio Rp) := by
  refine mt_of T.d_Ratio_repr sc_Ratio_repr bd_Ratio_repr (fun vs H Q E ⟨x, t, b, h, _⟩ => by rw [h]; rfl) fun f cdv A outer s H vs Q E hr h => ?_
  obtain ⟨x, t, b, rfl, r, z1, z2, q⟩ := h
  have l1 := it_len z1
  have l2 := it_len z2
  have ls1 : ("Ratio(" : Str).length = 6 := by decide +kernel
  have ls2 : (", " : Str).length = 2 := by decide +kernel
  have ls3 : (")" : Str).length = 1 := by decide +kernel
  unfold Rp at q
  have cR := T.o_Ratio.cls
  have nT := T.n_Ratio_top
  have nB := T.n_Ratio_bottom
  refine ⟨_, (pss_one (ps_ret (pe_joined (.cons pe_str (.cons (pe_fmt (pe_fld (pv 0) rfl)) (.cons pe_str (.cons (pe_fmt (pe_fld (pv 0) rfl)) (.cons pe_str .nil)))))))), ?_⟩
  refine i_start (σ' := [some (V.ref x)]) rfl ?_
  repeat walk_at "rd"
  refine i_js ⟨_, rfl, ?_, ?_⟩
  · rw [emp_app, ls1]
    decide
  refine i_js ?_
  refine i_fmt ?_
  repeat walk_at "rd"
  refine i_fmt_i z1 ⟨_, rfl, ?_, ?_⟩
  · rw [emp_app, app_len, ls1]
    exact sl_of (by omega)
  refine i_js ⟨_, rfl, ?_, ?_⟩
  · rw [emp_app, app_len, app_len, ls1, ls2]
    exact sl_of (by omega)
  refine i_js ?_
  refine i_fmt ?_
  repeat walk_at "rd"
  refine i_fmt_i z2 ⟨_, rfl, ?_, ?_⟩
  · rw [emp_app, app_len, app_len, app_len, ls1, ls2]
    exact sl_of (by omega)
  refine i_js ⟨_, rfl, ?_, ?_⟩
  · rw [emp_app, app_len, app_len, app_len, app_len, ls1, ls2, ls3]
    exact sl_of (by omega)
  refine i_js0 ?_
  rw [emp_app]
  exact q
end Lw

namespace Lw
open PySem PySem.Spec PyProof.Rows L2 Ly
local macro_rules | `(tactic| walk_at "rd") => `(tactic| first
  | ((with_reducible refine' i_var ?hv ?_); (case hv => exact rfl))
  | with_reducible refine i_c ?_
  | with_reducible refine i_op ?_
  | with_reducible refine i_cons ?_
  | with_reducible refine i_nil ?_
  | with_reducible refine i_cb ?_
  | with_reducible refine i_call ?_
  | with_reducible refine i_I0 ?_
  | with_reducible refine i_add_i ?_
  | with_reducible refine i_sub_i ?_
  | with_reducible refine i_md_i (by first | decide | assumption) ?_
  | ((with_reducible refine' i_md_i ?c ?_); rotate_left)
  | ((with_reducible refine' i_mul_i ?c ?_); rotate_left)
  | with_reducible refine i_fd_i (by decide) ?_
  | ((with_reducible refine' i_fd_i ?c ?_); rotate_left)
  | with_reducible refine i_int ?_
  | with_reducible refine i_abs ?_
  | with_reducible refine i_max2 ?_
  | with_reducible refine i_min2 ?_
  | with_reducible refine i_gcd ?_
  | with_reducible refine i_seq ?_
  | with_reducible refine i_if ?_
  | with_reducible refine i_asg ?_
  | with_reducible refine i_ret ?_
  | with_reducible refine i_drop ?_
  | with_reducible refine i_next ?_
  | with_reducible refine i_un ?_
  | with_reducible refine i_U ?_
  | ((with_reducible refine i_gname ?_); dsimp only [List.set])
  | with_reducible refine i_test ?_
  | with_reducible refine i_not ?_
  | with_reducible refine i_or ?_
  | with_reducible refine i_and ?_
  | with_reducible refine i_tb ?_
  | with_reducible refine i_andV ?_
  | with_reducible refine i_orV ?_
  | with_reducible refine i_notV ?_
  | with_reducible refine i_ifx ?_
  | with_reducible refine i_ext ?_
  | with_reducible refine i_exf ?_
  | with_reducible refine i_exn ?_
  | with_reducible refine i_itt ?_
  | with_reducible refine i_itf ?_
  | with_reducible refine i_gsub ?_
  | with_reducible refine i_nt ?_
  | with_reducible refine i_tup ?_
  | with_reducible refine i_lst ?_
  | with_reducible refine i_nf ?_
  | with_reducible refine i_isint ?_
  | ((with_reducible refine' i_top ?r ?_); (case r => walk_at "hp"))
  | ((with_reducible refine' i_bot ?r ?_); (case r => walk_at "hp"))
  | with_reducible refine i_fld ?_
  | with_reducible refine i_sfld ?_
  | with_reducible refine i_pp ?_
  | with_reducible refine i_meth ?_
  | with_reducible refine i_smeth ?_
  | with_reducible refine i_make ?_
  | with_reducible refine i_sl ?_
  | with_reducible refine i_noPart ?_
  | with_reducible refine i_part ?_
  | with_reducible refine i_smethK ?_
  | with_reducible refine i_sk1 ?_
  | with_reducible refine i_makeK ?_
  | with_reducible refine i_methK ?_
  | with_reducible refine i_mk11 ?_
  | ((with_reducible refine' i_rmk ?r ?h1 ?h2 ?_); (case r => walk_at "hp"); (case h1 => decide +kernel); (case h2 => decide +kernel))
  | with_reducible refine i_tpar ?_
  | ((with_reducible refine i_rpar ?_); dsimp only [List.set])
  | with_reducible refine i_eq_s rfl ?_
  | with_reducible refine i_ne_s rfl ?_
  | ((with_reducible refine' i_rtop ?r ?c ?n ?_); (case r => walk_at "hp"); (case c => assumption); (case n => assumption))
  | ((with_reducible refine' i_rbot ?r ?c ?n ?_); (case r => walk_at "hp"); (case c => assumption); (case n => assumption))
  | ((with_reducible refine' i_rpp ?r ?_); (case r => walk_at "hp"))
  | ((with_reducible refine' i_rmeth ?r ?h1 ?h2 ?_); (case r => walk_at "hp"); (case h1 => decide +kernel); (case h2 => decide +kernel))
  | ((with_reducible refine' i_ix_l ?hp ?ha ?_); (case hp => walk_at "hp"); (case ha => exact rfl))
  | ((with_reducible refine' i_len_l ?hp ?_); (case hp => walk_at "hp"))
  | ((with_reducible refine' i_ix_f0 ?hp ?_); (case hp => walk_at "hp"))
  | ((with_reducible refine' i_ix_f1 ?hp ?_); (case hp => walk_at "hp"))
  | ((with_reducible refine' i_ix_t ?hp ?ha ?_); (case hp => walk_at "hp"); (case ha => exact rfl)))
local macro_rules | `(tactic| walk_at "hp") => `(tactic| first
  | assumption
  | exact upd_same
  | exact SqL.of (by assumption)
  | (refine' Dr.tup (by assumption) ?hq; (case hq => walk_at "hp"))
  | (refine' FrL.same (by assumption) ?hq; (case hq => walk_at "hp"))
  | (refine' FracAt.same (by assumption) ?hq; (case hq => walk_at "hp"))
  | (refine' FracAt.nl (by assumption) ?hq; (case hq => walk_at "hp"))
  | (refine' RatAt.nl (by assumption) ?hq; (case hq => walk_at "hp"))
  | (refine' Num.nl (by assumption) ?hq; (case hq => walk_at "hp"))
  | (refine' FracAt.pk (by assumption) ?hq; (case hq => walk_at "hp"))
  | (refine' RatAt.pk (by assumption) ?hq; (case hq => walk_at "hp"))
  | (refine' Num.pk (by assumption) ?hq; (case hq => walk_at "hp"))
  | (refine' Dr.keep (by assumption) _ _ (by assumption) ?hq; (case hq => walk_at "hp"))
  | (refine' (show Same _ _ by assumption) _ _ ?hq; (case hq => walk_at "hp"))
  | (refine' RatAt.same (by assumption) ?hq; (case hq => walk_at "hp"))
  | (refine' Num.same (by assumption) ?hq; (case hq => walk_at "hp")))
local macro_rules | `(tactic| walk_at "sm") => `(tactic| first
  | assumption
  | exact Same.refl _
  | (refine' Same.kl (by assumption) (by assumption) ?aa; (case aa => walk_at "sm"))
  | (refine' Same.trans ?aa (by assumption); (case aa => walk_at "sm")))
local macro_rules | `(tactic| walk_at "dr") => `(tactic| first
  | assumption
  | (refine' Dr.same ?aa (by assumption); (case aa => walk_at "dr"))
  | (refine' Dr.trans ?aa (by assumption); (case aa => walk_at "dr")))

variable {W : Wd} {a : Ad}
theorem k_law_draw (T : Txt W.K W.mg a) : Cl W 1 "_law_draw" spDraw := by
  refine cl_of' T.d_law_draw sc_law_draw bd_law_draw (fun vs H Q E ⟨p, n, h, _⟩ => by rw [h]; rfl) fun f cdv A outer s H vs Q E hr h => ?_
  obtain ⟨p, n, rfl, hpot, hn, hz, q⟩ := h
  obtain ⟨a0, b0, hp, ok⟩ := _root_.id hpot
  refine ⟨_, (pss_cons (ps_if (pt_cmpR op_gt (pe_ix (r := rIx W.K) ix_U (pv 0) pe_int (fun _ _ => rfl)) pe_int (nomark _)) (pss_cons (ps_asg (pe_callB call_divmodU (by rfl) T.b_divmod (by decide +kernel) (pa_cons (pe_ix (r := rIx W.K) ix_U (pv 0) pe_int (fun _ _ => rfl)) (pa_cons (pv 1) pa_nil))) (pg_tup rfl (pgs_cons (pg_sub (pv 0) pe_int set_list) (pgs_cons (pg_name (i := 2) sc_law_draw.nd rfl (Or.inl rfl)) pgs_nil)))) (pss_one (ps_ret (pv 2)))) pss_nil) (pss_cons (ps_asg (pe_op op_modU (pe_callTy call_int1U (by rfl) T.b_int (by decide +kernel) (pa_cons (pe_op op_addU (pe_op op_mulU (pe_ix (r := rIx W.K) ix_U (pv 0) pe_int (fun _ _ => rfl)) pe_int) pe_int) pa_nil)) pe_int) (pg_sub (pv 0) pe_int set_list)) (pss_one (ps_ret (pe_op op_modU (pe_callTy call_int1U (by rfl) T.b_int (by decide +kernel) (pa_cons (pe_op op_fdivU (pe_op op_modU (pe_callTy call_int1U (by rfl) T.b_int (by decide +kernel) (pa_cons (pe_op op_mulU (pe_ix (r := rIx W.K) ix_U (pv 0) pe_int (fun _ _ => rfl)) (pe_ix (r := rIx W.K) ix_U (pv 0) pe_int (fun _ _ => rfl))) pa_nil)) pe_int) pe_int) pa_nil)) (pv 1)))))), ?_⟩
  refine i_start (σ' := [some (V.ref p), some (V.int n), none]) rfl ?_
  repeat walk_at "rd"
  refine i_dec (fun h0 => ?_) (fun h0 => ?_)
  · repeat walk_at "rd"
    refine i_dm (cdivp hn hz) fun t H1 nt ht s1 => ?_
    refine ⟨t, _, rfl, SqT.of ht, rfl, _, _, rfl, ?_⟩
    repeat walk_at "rd"
    refine ⟨p, _, _, 0, rfl, rfl, s1 _ _ hp, rfl, _, _, rfl, ?_⟩
    repeat walk_at "rd"
    refine ⟨rfl, ?_⟩
    repeat walk_at "rd"
    refine q _ _ (Int.emod_nonneg _ (by omega)) (Int.emod_lt_of_pos _ hn) ⟨fun c o hc e => ?_, hpot, a0 / n, b0, upd_same, Int.ediv_nonneg ok.ha (by omega), ok.hb, ok.hc⟩
    rw [upd_ne hc]
    exact s1 _ _ e
  · repeat walk_at "rd"
    refine ⟨p, _, _, 1, rfl, rfl, hp, rfl, ?_⟩
    have hm := Int.emod_lt_of_pos (b0 * 48271 + 12161) (show (0 : Int) < 2147483587 by decide)
    have hm0 := Int.emod_nonneg (b0 * 48271 + 12161) (show (2147483587 : Int) ≠ 0 by decide)
    have ok2 : PotOk a0 ((b0 * 48271 + 12161) % 2147483587) := ⟨ok.ha, hm0, by omega⟩
    have hp2 : upd H p (HO.lst ([V.int a0, V.int b0].set 1 (V.int ((b0 * 48271 + 12161) % 2147483587)))) p = some (HO.lst [V.int a0, V.int ((b0 * 48271 + 12161) % 2147483587)]) := upd_same
    repeat walk_at "rd"
    · refine q _ _ (Int.emod_nonneg _ (by omega)) (Int.emod_lt_of_pos _ hn) ⟨fun c o hc e => ?_, hpot, _, _, hp2, ok2⟩
      rw [upd_ne hc]
      exact e
    · exact wide_mul (a := 31) (b := 16) (by have := ok.hb; have := ok.hc; omega) (by decide) (by decide) (by decide) (by decide)
    · exact wide_mul (a := 31) (b := 31) (by have := ok2.hb; have := ok2.hc; omega) (by have := ok2.hb; have := ok2.hc; omega) (by decide) (by decide) (by decide)
    · exact wide_div (b := 4) (by decide) (by decide) (by decide) (by decide)
theorem k_law_pick (T : Txt W.K W.mg a) : Cl W 2 "_law_pick" spPick := by
  refine cl_of' T.d_law_pick sc_law_pick bd_law_pick (fun vs H Q E ⟨p, s, xs, h, _⟩ => by rw [h]; rfl) fun f cdv A outer s0 H vs Q E hr h => ?_
  obtain ⟨p, s, xs, rfl, hpot, hs, e, n, l, q⟩ := h
  have hpos : 0 < xs.length := List.length_pos_iff.mpr n
  refine ⟨_, (pss_one (ps_ret (pe_ix (r := rIx W.K) ix_U (pv 1) (pe_cl (k_law_draw T) hr (by decide) rfl (pa_cons (pv 0) (pa_cons (pe_callB (r := Ly.rLen W.K) call_lenU (by rfl) T.b_len (by decide +kernel) (pa_cons (pv 1) pa_nil)) pa_nil))) (fun _ _ => rfl)))), ?_⟩
  refine i_start (σ' := [some (V.ref p), some (V.ref s)]) rfl ?_
  repeat walk_at "rd"
  refine i_draw hpot (by omega) ?_ fun d H1 d0 d1 k => ?_
  · show ((xs.length : Int)).natAbs < 2 ^ 4000
    have : 2 ^ 10 ≤ 2 ^ 4000 := Nat.pow_le_pow_right (by decide) (by decide)
    omega
  have hlt : d.toNat < xs.length := by omega
  refine i_ix_l (xs := xs) (v := xs[d.toNat]) (k.keep _ _ hs e) ?_ ?_
  · have z := atI_nat (xs := xs) (j := d.toNat) (v := xs[d.toNat]) (by simp [hlt])
    rw [show ((d.toNat : Nat) : Int) = d by omega] at z
    exact z
  · exact q _ H1 (List.getElem_mem hlt) k
theorem k_law_frac (T : Txt W.K W.mg a) : Cl W 1 "_law_frac" spFrac := by
  refine cl_of' T.d_law_frac sc_law_frac bd_law_frac (fun vs H Q E ⟨u, d, h, _⟩ => by rw [h]; rfl) fun f cdv A outer s H vs Q E hr h => ?_
  obtain ⟨u, d, rfl, hd, z1, z2, q⟩ := h
  refine ⟨_, (pss_cons (ps_par (i := 2) (j := 3) (by rfl) sc_law_frac.nd rfl rfl (by decide) rfl rfl (pa_cons (pe_callB call_absU (by rfl) T.b_abs (by decide +kernel) (pa_cons (pv 0) pa_nil)) (pa_cons (pe_callB call_absU (by rfl) T.b_abs (by decide +kernel) (pa_cons (pv 1) pa_nil)) pa_nil)) (by rfl)) (pss_cons (ps_while PassesOwn.never (pt_cmpR op_gt (pv 3) pe_int (nomark _)) (pss_one (ps_par (i := 2) (j := 3) (by rfl) sc_law_frac.nd rfl rfl (by decide) rfl rfl (pa_cons (pv 3) (pa_cons (pe_op op_subU (pv 2) (pe_op op_mulU (pe_op op_fdivU (pv 2) (pv 3)) (pv 3))) pa_nil)) (by rfl)))) (pss_cons (ps_if (pt_cmpR op_lt (pv 1) pe_int (nomark _)) (pss_one (ps_par (i := 0) (j := 1) (by rfl) sc_law_frac.nd rfl rfl (by decide) rfl rfl (pa_cons (pe_op op_subU pe_int (pv 0)) (pa_cons (pe_op op_subU pe_int (pv 1)) pa_nil)) (by rfl))) pss_nil) (pss_one (ps_ret (pe_tup (pa_cons (pe_op op_fdivU (pv 0) (pe_callB (call_max2U rfl) (by rfl) T.b_max (by decide +kernel) (pa_cons pe_int (pa_cons (pv 2) pa_nil)))) (pa_cons (pe_op op_fdivU (pv 1) (pe_callB (call_max2U rfl) (by rfl) T.b_max (by decide +kernel) (pa_cons pe_int (pa_cons (pv 2) pa_nil)))) pa_nil)))))))), ?_⟩
  refine i_start (σ' := [some (V.int u), some (V.int d), none, none]) rfl ?_
  repeat walk_at "rd"
  have zabs : ∀ {x : Int}, Sz 8900 x → Sz 8900 (if x < 0 then -x else x) := fun z => sz_absI z
  refine ⟨fun m σ H' => ∃ x y : Int, m = y.toNat ∧ σ = [some (V.int u), some (V.int d), some (V.int x), some (V.int y)] ∧ H' = H ∧ 0 ≤ x ∧ 0 ≤ y ∧ Int.gcd x y = Int.gcd u d ∧ Sz 8900 x ∧ Sz 8900 y,
    ⟨_, _, _, rfl, rfl, rfl, by split <;> omega, by split <;> omega, ?_, zabs z1, zabs z2⟩, ?_⟩
  · have e : ∀ x : Int, (if x < 0 then -x else x) = (x.natAbs : Int) := fun x => by split <;> omega
    rw [e, e]
    simp [Int.gcd]
  rintro m σ H' ⟨x, y, rfl, rfl, rfl, hx, hy, hg, zx, zy⟩
  repeat walk_at "rd"
  refine i_dec (fun h0 => ?_) (fun h0 => ?_)
  · have e0 : x - x / y * y = x % y := by
      have h1 := Int.mul_ediv_add_emod x y
      have h2 := Int.mul_comm y (x / y)
      omega
    have m0 := Int.emod_nonneg x (show y ≠ 0 by omega)
    have m1 := Int.emod_lt_of_pos x h0
    have zq : Sz 8900 (x / y) := sz_ediv zx
    refine ⟨fun σ' H2 => σ' = [some (V.int u), some (V.int d), some (V.int y), some (V.int (x - x / y * y))] ∧ H2 = H', fun σ' H2 h => ?_, ?_⟩
    · obtain ⟨rfl, rfl⟩ := h
      refine ⟨_, ?_, y, x - x / y * y, rfl, rfl, rfl, hy, by omega, ?_, zy, sz_le zy (by omega)⟩
      · omega
      · rw [Int.gcd_sub_mul_right_right, Int.gcd_comm]
        exact hg
    · repeat walk_at "rd"
      · exact ⟨rfl, rfl⟩
      · exact ⟨h0, by
          have := PySem.Flt.log2_lt_of (n := y.natAbs) (k := 8900) (by decide) zy
          omega⟩
      · exact cmul_sz zq zy
  · have ex : x = G u d := by
      have : y = 0 := by omega
      rw [this, Int.gcd_zero_right] at hg
      unfold G
      omega
    have gp := G_pos (t := u) hd
    have em : (if x > 1 then x else 1) = G u d := by split <;> omega
    have zG : ∀ z : Int, CDivW z (G u d) := fun z => by
      have := PySem.Flt.log2_lt_of (n := (G u d).natAbs) (k := 8900) (by decide) (by rw [← ex]; exact zx)
      exact ⟨gp, by omega⟩
    repeat walk_at "rd"
    refine i_dec (fun h2 => ?_) (fun h2 => ?_)
    · have e1 : (0 - u) / G u d = Nu u d := by
        unfold Nu
        rw [if_neg (by omega), Int.zero_sub]
      have e2 : (0 - d) / G u d = De u d := by
        unfold De
        rw [if_neg (by omega), Int.zero_sub]
      repeat walk_at "rd"
      · rw [em, e1, e2]
        exact i_mkT2 fun r H1 nr hr' s1 => q r H1 nr s1 hr'
      all_goals (rw [em]; exact zG _)
    · have e1 : u / G u d = Nu u d := by
        unfold Nu
        rw [if_pos (by omega)]
      have e2 : d / G u d = De u d := by
        unfold De
        rw [if_pos (by omega)]
      repeat walk_at "rd"
      · rw [em, e1, e2]
        exact i_mkT2 fun r H1 nr hr' s1 => q r H1 nr s1 hr'
      all_goals (rw [em]; exact zG _)
def pT : Int → Int → Int → Int → Prop := fun _ _ _ _ => True
theorem k_law_plus (T : Txt W.K W.mg a) : Cl W 2 "_law_plus" (spF2 pT aN dD) := by
  refine cl_of' T.d_law_plus sc_law_plus bd_law_plus (fun vs H Q E ⟨x, y, t, b, t2, b2, h, _⟩ => by rw [h]; rfl) fun f cdv A outer s H vs Q E hr h => ?_
  obtain ⟨x, y, t, b, t2, b2, rfl, f1, f2, o, o2, _, q⟩ := h
  refine ⟨_, (pss_one (ps_ret (pe_cl (k_law_frac T) hr (by decide) rfl (pa_cons (pe_op op_addU (pe_op op_mulU (pe_ix (r := rIx W.K) ix_U (pv 0) pe_int (fun _ _ => rfl)) (pe_ix (r := rIx W.K) ix_U (pv 1) pe_int (fun _ _ => rfl))) (pe_op op_mulU (pe_ix (r := rIx W.K) ix_U (pv 1) pe_int (fun _ _ => rfl)) (pe_ix (r := rIx W.K) ix_U (pv 0) pe_int (fun _ _ => rfl)))) (pa_cons (pe_op op_mulU (pe_ix (r := rIx W.K) ix_U (pv 0) pe_int (fun _ _ => rfl)) (pe_ix (r := rIx W.K) ix_U (pv 1) pe_int (fun _ _ => rfl))) pa_nil))))), ?_⟩
  refine i_start (σ' := [some (V.ref x), some (V.ref y)]) rfl ?_
  repeat walk_at "rd"
  · exact i_frac (Int.mul_ne_zero (Int.ne_of_gt o.lo.pos) (Int.ne_of_gt o2.lo.pos)) (sz_mono (sz_add (sz_mul o.zt o2.zb) (sz_mul o2.zt o.zb)) (by decide)) (sz_mono (sz_mul o.zb o2.zb) (by decide)) q
  all_goals first
    | exact cmul_sz o.zt o2.zb
    | exact cmul_sz o2.zt o.zb
    | exact cmul_sz o.zb o2.zb
theorem k_law_less (T : Txt W.K W.mg a) : Cl W 3 "_law_less" (spF2 pT sN dD) := by
  refine cl_of' T.d_law_less sc_law_less bd_law_less (fun vs H Q E ⟨x, y, t, b, t2, b2, h, _⟩ => by rw [h]; rfl) fun f cdv A outer s H vs Q E hr h => ?_
  obtain ⟨x, y, t, b, t2, b2, rfl, f1, f2, o, o2, _, q⟩ := h
  have o3 : Ok4 (0 - t2) b2 := ⟨⟨o2.lo.pos, by rw [Int.zero_sub, Int.neg_gcd]; exact o2.lo.one⟩, by rw [Int.zero_sub]; exact sz_neg o2.zt, o2.zb⟩
  have e : aN t b (0 - t2) b2 = sN t b t2 b2 := by
    unfold aN sN
    rw [Int.zero_sub, Int.neg_mul, ← Int.sub_eq_add_neg]
  refine ⟨_, (pss_one (ps_ret (pe_cl (k_law_plus T) hr (by decide) rfl (pa_cons (pv 0) (pa_cons (pe_tup (pa_cons (pe_op op_subU pe_int (pe_ix (r := rIx W.K) ix_U (pv 1) pe_int (fun _ _ => rfl))) (pa_cons (pe_ix (r := rIx W.K) ix_U (pv 1) pe_int (fun _ _ => rfl)) pa_nil))) pa_nil))))), ?_⟩
  refine i_start (σ' := [some (V.ref x), some (V.ref y)]) rfl ?_
  repeat walk_at "rd"
  refine i_mkT2 fun z H1 nz hz s1 => ?_
  repeat walk_at "rd"
  refine i_f2 (f1.same s1) hz o o3 trivial ?_
  rw [e]
  exact pF_same s1 q
theorem k_law_times (T : Txt W.K W.mg a) : Cl W 2 "_law_times" (spF2 pT mN dD) := by
  refine cl_of' T.d_law_times sc_law_times bd_law_times (fun vs H Q E ⟨x, y, t, b, t2, b2, h, _⟩ => by rw [h]; rfl) fun f cdv A outer s H vs Q E hr h => ?_
  obtain ⟨x, y, t, b, t2, b2, rfl, f1, f2, o, o2, _, q⟩ := h
  refine ⟨_, (pss_one (ps_ret (pe_cl (k_law_frac T) hr (by decide) rfl (pa_cons (pe_op op_mulU (pe_ix (r := rIx W.K) ix_U (pv 0) pe_int (fun _ _ => rfl)) (pe_ix (r := rIx W.K) ix_U (pv 1) pe_int (fun _ _ => rfl))) (pa_cons (pe_op op_mulU (pe_ix (r := rIx W.K) ix_U (pv 0) pe_int (fun _ _ => rfl)) (pe_ix (r := rIx W.K) ix_U (pv 1) pe_int (fun _ _ => rfl))) pa_nil))))), ?_⟩
  refine i_start (σ' := [some (V.ref x), some (V.ref y)]) rfl ?_
  repeat walk_at "rd"
  · exact i_frac (Int.mul_ne_zero (Int.ne_of_gt o.lo.pos) (Int.ne_of_gt o2.lo.pos)) (sz_mono (sz_mul o.zt o2.zt) (by decide)) (sz_mono (sz_mul o.zb o2.zb) (by decide)) q
  all_goals first
    | exact cmul_sz o.zt o2.zt
    | exact cmul_sz o.zb o2.zb
/-- the floor by the law's own division -/
def spFl : Sp := fun vs H Q _ => ∃ (x y : Addr) (t b t2 b2 : Int), vs = [.ref x, .ref y] ∧ FracAt H x t b ∧ FracAt H y t2 b2 ∧ Ok4 t b ∧ Ok4 t2 b2 ∧ t2 ≠ 0 ∧ Q (.int (fQ t b t2 b2)) H
theorem k_law_floor (T : Txt W.K W.mg a) : Cl W 1 "_law_floor" spFl := by
  refine cl_of' T.d_law_floor sc_law_floor bd_law_floor (fun vs H Q E ⟨x, y, t, b, t2, b2, h, _⟩ => by rw [h]; rfl) fun f cdv A outer s H vs Q E hr h => ?_
  obtain ⟨x, y, t, b, t2, b2, rfl, f1, f2, o, o2, hne, q⟩ := h
  have hD : oD t b t2 b2 ≠ 0 := Int.mul_ne_zero (Int.ne_of_gt o.lo.pos) hne
  refine ⟨_, (pss_one (ps_ret (pe_op op_fdivX (pe_op op_mulU (pe_ix (r := rIx W.K) ix_U (pv 0) pe_int (fun _ _ => rfl)) (pe_ix (r := rIx W.K) ix_U (pv 1) pe_int (fun _ _ => rfl))) (pe_op op_mulU (pe_ix (r := rIx W.K) ix_U (pv 0) pe_int (fun _ _ => rfl)) (pe_ix (r := rIx W.K) ix_U (pv 1) pe_int (fun _ _ => rfl)))))), ?_⟩
  refine i_start (σ' := [some (V.ref x), some (V.ref y)]) rfl ?_
  repeat walk_at "rd"
  · refine i_I (cdivx_sz hD (sz_mul o.zb o2.zt)) ?_
    rw [show (t * b2).fdiv (b * t2) = fQ t b t2 b2 from fdiv_nu hD]
    exact q
  all_goals first
    | exact cmul_sz o.zt o2.zb
    | exact cmul_sz o.zb o2.zt
theorem k_law_rest (T : Txt W.K W.mg a) : Cl W 4 "_law_rest" (spF2 pM rN rD) := by
  refine cl_of' T.d_law_rest sc_law_rest bd_law_rest (fun vs H Q E ⟨x, y, t, b, t2, b2, h, _⟩ => by rw [h]; rfl) fun f cdv A outer s H vs Q E hr h => ?_
  obtain ⟨x, y, t, b, t2, b2, rfl, f1, f2, o, o2, ⟨hne, y1, y2, y3, y4⟩, q⟩ := h
  have hD : oD t b t2 b2 ≠ 0 := Int.mul_ne_zero (Int.ne_of_gt o.lo.pos) hne
  have zf : Sz 2600 (fQ t b t2 b2) := sz_ediv (sz_nu hD (sz_mul y1 y4))
  have zfo : Ok4 (fQ t b t2 b2) 1 := ok_int (sz_mono zf (by decide))
  have hd2 : dD (fQ t b t2 b2) 1 t2 b2 ≠ 0 := Int.mul_ne_zero (by decide) (Int.ne_of_gt o2.lo.pos)
  have zr : Ok4 (rT t b t2 b2) (rB t b t2 b2) := ⟨lo_nu hd2, sz_mono (sz_nu hd2 (sz_mul zf y3)) (by decide), sz_mono (sz_de hd2 (sz_mul (sz_1 (n := 1)) y4)) (by decide)⟩
  refine ⟨_, (pss_one (ps_ret (pe_cl (k_law_less T) hr (by decide) rfl (pa_cons (pv 0) (pa_cons (pe_cl (k_law_times T) hr (by decide) rfl (pa_cons (pe_tup (pa_cons (pe_cl (k_law_floor T) hr (by decide) rfl (pa_cons (pv 0) (pa_cons (pv 1) pa_nil))) (pa_cons pe_int pa_nil))) (pa_cons (pv 1) pa_nil))) pa_nil))))), ?_⟩
  refine i_start (σ' := [some (V.ref x), some (V.ref y)]) rfl ?_
  repeat walk_at "rd"
  refine ⟨x, y, t, b, t2, b2, rfl, f1, f2, o, o2, hne, ?_⟩
  repeat walk_at "rd"
  refine i_mkT2 fun z H1 nz hz s1 => ?_
  repeat walk_at "rd"
  refine i_f2 hz (f2.same s1) zfo o2 trivial fun z2 H2 nz2 s2 hz2 => ?_
  repeat walk_at "rd"
  refine i_f2 ((f1.same s1).same s2) hz2 o zr trivial ?_
  exact pF_same (s1.trans s2) q
end Lw

namespace Lw
open PySem PySem.Spec PyProof.Rows L2 Ly
local macro_rules | `(tactic| walk_at "rd") => `(tactic| first
  | ((with_reducible refine' i_var ?hv ?_); (case hv => exact rfl))
  | with_reducible refine i_c ?_
  | with_reducible refine i_op ?_
  | with_reducible refine i_cons ?_
  | with_reducible refine i_nil ?_
  | with_reducible refine i_cb ?_
  | with_reducible refine i_call ?_
  | with_reducible refine i_I0 ?_
  | with_reducible refine i_add_i ?_
  | with_reducible refine i_sub_i ?_
  | with_reducible refine i_md_i (by first | decide | assumption) ?_
  | ((with_reducible refine' i_md_i ?c ?_); rotate_left)
  | ((with_reducible refine' i_mul_i ?c ?_); rotate_left)
  | with_reducible refine i_fd_i (by decide) ?_
  | ((with_reducible refine' i_fd_i ?c ?_); rotate_left)
  | with_reducible refine i_int ?_
  | with_reducible refine i_abs ?_
  | with_reducible refine i_max2 ?_
  | with_reducible refine i_min2 ?_
  | with_reducible refine i_gcd ?_
  | with_reducible refine i_seq ?_
  | with_reducible refine i_if ?_
  | with_reducible refine i_asg ?_
  | with_reducible refine i_ret ?_
  | with_reducible refine i_drop ?_
  | with_reducible refine i_next ?_
  | with_reducible refine i_un ?_
  | with_reducible refine i_U ?_
  | ((with_reducible refine i_gname ?_); dsimp only [List.set])
  | with_reducible refine i_test ?_
  | with_reducible refine i_not ?_
  | with_reducible refine i_or ?_
  | with_reducible refine i_and ?_
  | with_reducible refine i_tb ?_
  | with_reducible refine i_andV ?_
  | with_reducible refine i_orV ?_
  | with_reducible refine i_notV ?_
  | with_reducible refine i_ifx ?_
  | with_reducible refine i_ext ?_
  | with_reducible refine i_exf ?_
  | with_reducible refine i_exn ?_
  | with_reducible refine i_itt ?_
  | with_reducible refine i_itf ?_
  | with_reducible refine i_gsub ?_
  | with_reducible refine i_nt ?_
  | with_reducible refine i_tup ?_
  | with_reducible refine i_lst ?_
  | with_reducible refine i_nf ?_
  | with_reducible refine i_isint ?_
  | ((with_reducible refine' i_top ?r ?_); (case r => walk_at "hp"))
  | ((with_reducible refine' i_bot ?r ?_); (case r => walk_at "hp"))
  | with_reducible refine i_fld ?_
  | with_reducible refine i_sfld ?_
  | with_reducible refine i_pp ?_
  | with_reducible refine i_meth ?_
  | with_reducible refine i_smeth ?_
  | with_reducible refine i_make ?_
  | with_reducible refine i_sl ?_
  | with_reducible refine i_noPart ?_
  | with_reducible refine i_part ?_
  | with_reducible refine i_smethK ?_
  | with_reducible refine i_sk1 ?_
  | with_reducible refine i_makeK ?_
  | with_reducible refine i_methK ?_
  | with_reducible refine i_mk11 ?_
  | ((with_reducible refine' i_rmk ?r ?h1 ?h2 ?_); (case r => walk_at "hp"); (case h1 => decide +kernel); (case h2 => decide +kernel))
  | with_reducible refine i_tpar ?_
  | ((with_reducible refine i_rpar ?_); dsimp only [List.set])
  | with_reducible refine i_eq_s rfl ?_
  | with_reducible refine i_ne_s rfl ?_
  | ((with_reducible refine' i_rtop ?r ?c ?n ?_); (case r => walk_at "hp"); (case c => assumption); (case n => assumption))
  | ((with_reducible refine' i_rbot ?r ?c ?n ?_); (case r => walk_at "hp"); (case c => assumption); (case n => assumption))
  | ((with_reducible refine' i_rpp ?r ?_); (case r => walk_at "hp"))
  | ((with_reducible refine' i_rmeth ?r ?h1 ?h2 ?_); (case r => walk_at "hp"); (case h1 => decide +kernel); (case h2 => decide +kernel))
  | ((with_reducible refine' i_ix_l ?hp ?ha ?_); (case hp => walk_at "hp"); (case ha => exact rfl))
  | ((with_reducible refine' i_len_l ?hp ?_); (case hp => walk_at "hp"))
  | ((with_reducible refine' i_ix_f0 ?hp ?_); (case hp => walk_at "hp"))
  | ((with_reducible refine' i_ix_f1 ?hp ?_); (case hp => walk_at "hp"))
  | ((with_reducible refine' i_ix_t ?hp ?ha ?_); (case hp => walk_at "hp"); (case ha => exact rfl)))
local macro_rules | `(tactic| walk_at "hp") => `(tactic| first
  | assumption
  | exact upd_same
  | exact SqL.of (by assumption)
  | (refine' Dr.tup (by assumption) ?hq; (case hq => walk_at "hp"))
  | (refine' FrL.same (by assumption) ?hq; (case hq => walk_at "hp"))
  | (refine' FracAt.same (by assumption) ?hq; (case hq => walk_at "hp"))
  | (refine' FracAt.nl (by assumption) ?hq; (case hq => walk_at "hp"))
  | (refine' RatAt.nl (by assumption) ?hq; (case hq => walk_at "hp"))
  | (refine' Num.nl (by assumption) ?hq; (case hq => walk_at "hp"))
  | (refine' FracAt.pk (by assumption) ?hq; (case hq => walk_at "hp"))
  | (refine' RatAt.pk (by assumption) ?hq; (case hq => walk_at "hp"))
  | (refine' Num.pk (by assumption) ?hq; (case hq => walk_at "hp"))
  | (refine' Dr.keep (by assumption) _ _ (by assumption) ?hq; (case hq => walk_at "hp"))
  | (refine' (show Same _ _ by assumption) _ _ ?hq; (case hq => walk_at "hp"))
  | (refine' RatAt.same (by assumption) ?hq; (case hq => walk_at "hp"))
  | (refine' Num.same (by assumption) ?hq; (case hq => walk_at "hp")))
local macro_rules | `(tactic| walk_at "sm") => `(tactic| first
  | assumption
  | exact Same.refl _
  | (refine' Same.kl (by assumption) (by assumption) ?aa; (case aa => walk_at "sm"))
  | (refine' Same.trans ?aa (by assumption); (case aa => walk_at "sm")))
local macro_rules | `(tactic| walk_at "dr") => `(tactic| first
  | assumption
  | (refine' Dr.same ?aa (by assumption); (case aa => walk_at "dr"))
  | (refine' Dr.trans ?aa (by assumption); (case aa => walk_at "dr")))

variable {W : Wd} {a : Ad}
theorem k_law_pot (T : Txt W.K W.mg a) : Cl W 1 "_law_pot" (spPot W.K) := by
  refine cl_of' T.d_law_pot sc_law_pot bd_law_pot (fun vs H Q E ⟨s, ns, k, h, _⟩ => by rw [h]; rfl) fun f cdv A outer s0 H vs Q E hr h => ?_
  obtain ⟨s, ns, k, rfl, hs, k0, k1, q⟩ := h
  refine ⟨_, (pss_cons (ps_set (i := 2) sc_law_pot.nd rfl (Or.inl rfl) (pe_op op_addU (pe_op op_mulU pe_int (pv 1)) pe_int)) (pss_cons (ps_if (pt_cmpR op_lt (pv 1) (pe_callB (r := Ly.rLen W.K) call_lenU (by rfl) T.b_len (by decide +kernel) (pa_cons (pv 0) pa_nil)) (nomark _)) (pss_one (ps_set (i := 2) sc_law_pot.nd rfl (Or.inl rfl) (pe_callB call_absU (by rfl) T.b_abs (by decide +kernel) (pa_cons (pe_ix (r := rIx W.K) ix_U (pv 0) (pv 1) (fun _ _ => rfl)) pa_nil)))) pss_nil) (pss_one (ps_ret (pe_lst (pa_cons (pe_callB (call_max2U rfl) (by rfl) T.b_max (by decide +kernel) (pa_cons pe_int (pa_cons (pe_op op_subU (pv 2) (pe_op op_pow pe_int pe_int)) pa_nil))) (pa_cons (pe_op op_addU (pe_op op_modU (pe_op op_mulU (pe_callTy call_int1U (by rfl) T.b_int (by decide +kernel) (pa_cons (pe_op op_addU (pe_op op_modU (pe_callTy call_int1U (by rfl) T.b_int (by decide +kernel) (pa_cons (pv 2) pa_nil)) pe_int) pe_int) pa_nil)) (pe_op op_pow (pe_op op_addU (pe_op op_mulU pe_int (pv 1)) pe_int) pe_int)) pe_int) pe_int) pa_nil))))))), ?_⟩
  refine i_start (σ' := [some (V.ref s), some (V.int k), none]) rfl ?_
  have fin : ∀ c : Int, ∀ H1 : Hp, Same H H1 → ∀ p, H1 p = none → Q (.ref p) (upd H1 p (.lst [.int (if c - 10 ^ (18 : Int).toNat > 0 then c - 10 ^ (18 : Int).toNat else 0), .int ((c % 2147483549 + 7) * (2 * k + 3) ^ (3 : Int).toNat % 2147483477 + 1)])) := by
    intro c H1 s1 p np
    have m0 := Int.emod_nonneg ((c % 2147483549 + 7) * (2 * k + 3) ^ (3 : Int).toNat) (show (2147483477 : Int) ≠ 0 by decide)
    have m1 := Int.emod_lt_of_pos ((c % 2147483549 + 7) * (2 * k + 3) ^ (3 : Int).toNat) (show (0 : Int) < 2147483477 by decide)
    refine q p _ (s1.free np) (fun c o e => ?_) ⟨_, _, upd_same, by split <;> omega, by omega, by omega⟩
    rw [upd_ne (ne_of_none (s1 _ _ e) np)]
    exact s1 _ _ e
  have cm : CMulW 29 k := wide_mul (a := 5) (b := 7) (by decide) (by omega) (by decide) (by decide) (by decide)
  have cm2 : CMulW 2 k := wide_mul (a := 5) (b := 7) (by decide) (by omega) (by decide) (by decide) (by decide)
  have two : 2 ≤ sizeLine := by decide
  have fin2 : ∀ c : Int, rMkL [.int (if c - 10 ^ (18 : Int).toNat > 0 then c - 10 ^ (18 : Int).toNat else 0), .int ((c % 2147483549 + 7) * (2 * k + 3) ^ (3 : Int).toNat % 2147483477 + 1)] H Q := fun c => ⟨two, fin c H (Same.refl H)⟩
  have cp1 : CPow 10 18 := ⟨by decide, by decide, by decide⟩
  have cp2 : CPow (2 * k + 3) 3 := ⟨by decide, by decide, by omega⟩
  have cm3 : ∀ c : Int, CMulW (c % 2147483549 + 7) ((2 * k + 3) ^ (3 : Int).toNat) := fun c => by
    have m0 := Int.emod_nonneg c (show (2147483549 : Int) ≠ 0 by decide)
    have m1 := Int.emod_lt_of_pos c (show (0 : Int) < 2147483549 by decide)
    have z : Sz 8 (2 * k + 3) := by
      unfold Sz
      omega
    have z3 : Sz 24 ((2 * k + 3) ^ (3 : Int).toNat) := by
      have e : (2 * k + 3) ^ (3 : Int).toNat = (2 * k + 3) * (2 * k + 3) * (2 * k + 3) := by
        show (2 * k + 3) ^ 3 = _
        rw [Int.pow_succ, Int.pow_succ, Int.pow_succ, Int.pow_zero, Int.one_mul]
      rw [e]
      exact sz_mul (sz_mul z z) z
    exact cmul_sz (n := 32) (by unfold Sz; omega) z3
  repeat walk_at "rd"
  refine i_len_L hs ?_
  repeat walk_at "rd"
  refine i_dec (fun h0 => ?_) (fun h0 => ?_)
  · have hlt : k.toNat < ns.length := by
      rw [List.length_map] at h0
      omega
    repeat walk_at "rd"
    refine i_ix_L hs (v := .int ns[k.toNat]) ?_ ?_
    · have z := atI_nat (xs := ns.map V.int) (j := k.toNat) (v := .int ns[k.toNat]) (by simp [hlt])
      rw [show ((k.toNat : Nat) : Int) = k by omega] at z
      exact z
    repeat walk_at "rd"
    refine i_I cp1 ?_
    repeat walk_at "rd"
    refine i_I cp2 ?_
    repeat walk_at "rd"
    · exact fin2 _
    · exact cm2
    · exact cm3 _
  · repeat walk_at "rd"
    refine i_I cp1 ?_
    repeat walk_at "rd"
    refine i_I cp2 ?_
    repeat walk_at "rd"
    · exact fin2 _
    · exact cm2
    · exact cm3 _
  · exact cm
theorem k_law_drawn (T : Txt W.K W.mg a) : Cl W 3 "_law_drawn" spDrawn := by
  refine cl_of' T.d_law_drawn sc_law_drawn bd_law_drawn (fun vs H Q E ⟨p, h, _⟩ => by rw [h]; rfl) fun f cdv A outer s0 H vs Q E hr h => ?_
  obtain ⟨p, rfl, hp, q⟩ := h
  have cp12 : CPow 10 12 := ⟨by decide, by decide, by decide⟩
  have cp11 : CPow 10 11 := ⟨by decide, by decide, by decide⟩
  have cp9 : CPow 10 9 := ⟨by decide, by decide, by decide⟩
  have cp17 : CPow 10 17 := ⟨by decide, by decide, by decide⟩
  have v12 : (10 : Int) ^ (12 : Int).toNat = 1000000000000 := by decide
  have v11 : (10 : Int) ^ (11 : Int).toNat = 100000000000 := by decide
  have v9 : (10 : Int) ^ (9 : Int).toNat = 1000000000 := by decide
  have v17 : (10 : Int) ^ (17 : Int).toNat = 100000000000000000 := by decide
  refine ⟨_, (pss_cons (ps_set (i := 1) sc_law_drawn.nd rfl (Or.inl rfl) (pe_lst (pa_cons pe_int (pa_cons (pe_op op_subU (pe_cl (k_law_draw T) hr (by decide) rfl (pa_cons (pv 0) (pa_cons pe_int pa_nil))) pe_int) (pa_cons (pe_op op_subU (pe_cl (k_law_draw T) hr (by decide) rfl (pa_cons (pv 0) (pa_cons pe_int pa_nil))) pe_int) (pa_cons (pe_op op_subU (pe_cl (k_law_draw T) hr (by decide) rfl (pa_cons (pv 0) (pa_cons (pe_op op_pow pe_int pe_int) pa_nil))) (pe_op op_mulU pe_int (pe_op op_pow pe_int pe_int))) pa_nil)))))) (Evl.pss_cut (ps_asg (pe_ifExp (pt_cmpR op_gt (pe_op op_modU (pe_callTy call_int1U (by rfl) T.b_int (by decide +kernel) (pa_cons (pe_ix (r := rIx W.K) ix_U (pv 1) pe_int (fun _ _ => rfl)) pa_nil)) pe_int) pe_int (nomark _)) (pe_ix (r := rIx W.K) ix_U (pv 1) pe_int (fun _ _ => rfl)) (pe_op op_addU (pe_op op_mulU (pe_ix (r := rIx W.K) ix_U (pv 1) pe_int (fun _ _ => rfl)) (pe_op op_pow pe_int pe_int)) pe_int)) (pg_sub (pv 1) pe_int set_list)) (pss_cons (ps_set (i := 2) sc_law_drawn.nd rfl (Or.inl rfl) (pe_lst (pa_cons pe_int (pa_cons pe_int (pa_cons (pe_op op_addU pe_int (pe_cl (k_law_draw T) hr (by decide) rfl (pa_cons (pv 0) (pa_cons pe_int pa_nil)))) (pa_cons (pe_op op_addU pe_int (pe_cl (k_law_draw T) hr (by decide) rfl (pa_cons (pv 0) (pa_cons pe_int pa_nil)))) (pa_cons (pe_op op_addU pe_int (pe_cl (k_law_draw T) hr (by decide) rfl (pa_cons (pv 0) (pa_cons (pe_op op_pow pe_int pe_int) pa_nil)))) pa_nil))))))) (pss_one (ps_ret (pe_cl (k_law_frac T) hr (by decide) rfl (pa_cons (pe_cl (k_law_pick T) hr (by decide) rfl (pa_cons (pv 0) (pa_cons (pv 1) pa_nil))) (pa_cons (pe_cl (k_law_pick T) hr (by decide) rfl (pa_cons (pv 0) (pa_cons (pv 2) pa_nil))) pa_nil)))))))), ?_⟩
  refine i_start (σ' := [some (V.ref p), none, none]) rfl ?_
  repeat walk_at "rd"
  refine i_draw hp (by decide) (sz_lit (by decide)) fun d1 H1 a1 b1 k1 => ?_
  repeat walk_at "rd"
  refine i_draw k1.pot' (by decide) (sz_lit (by decide)) fun d2 H2 a2 b2 k2 => ?_
  repeat walk_at "rd"
  refine i_I cp12 ?_
  repeat walk_at "rd"
  rw [v12]
  refine i_draw k2.pot' (by decide) (sz_lit (by decide)) fun d3 H3 a3 b3 k3 => ?_
  repeat walk_at "rd"
  refine i_I cp11 ?_
  repeat walk_at "rd"
  rw [v11]
  · refine i_mkL4 fun l H4 nl hl s4 => ?_
    have nlp := fresh_ne k3.pot' nl
    have nl0 : H l = none := ((k1.trans k2).trans k3).free nl
    have k4 : Dr p H H4 := ((k1.trans k2).trans k3).same s4
    repeat walk_at "rd"
    refine ⟨fun σ' H' => ∃ v, σ' = [some (V.ref p), some (V.ref l), none] ∧ Sz 96 v ∧ H' l = some (.lst [.int 0, .int (d1 - 6), .int (d2 - 1000), .int v]) ∧ Dr p H H', ?_, ?_⟩
    · repeat walk_at "rd"
      refine i_dec (fun h0 => ?_) (fun h0 => ?_)
      · repeat walk_at "rd"
        refine ⟨l, _, _, 3, rfl, rfl, hl, rfl, _, rfl, ?_, upd_same, k4.mut nl0 nlp⟩
        unfold Sz
        omega
      · repeat walk_at "rd"
        refine i_I cp17 ?_
        repeat walk_at "rd"
        · rw [v17]
          refine ⟨l, _, _, 3, rfl, rfl, hl, rfl, _, rfl, ?_, upd_same, k4.mut nl0 nlp⟩
          unfold Sz
          omega
        · exact cmul_sz (n := 64) (m := 64) (by unfold Sz; omega) (by unfold Sz; rw [v17]; decide)
    · rintro σ' H5 ⟨v, rfl, zv, hl5, k5⟩
      repeat walk_at "rd"
      refine i_draw k5.pot' (by decide) (sz_lit (by decide)) fun e1 H6 a6 b6 k6 => ?_
      repeat walk_at "rd"
      refine i_draw k6.pot' (by decide) (sz_lit (by decide)) fun e2 H7 a7 b7 k7 => ?_
      repeat walk_at "rd"
      refine i_I cp9 ?_
      repeat walk_at "rd"
      rw [v9]
      refine i_draw k7.pot' (by decide) (sz_lit (by decide)) fun e3 H8 a8 b8 k8 => ?_
      repeat walk_at "rd"
      refine i_mkL5 fun m H9 nm hm s9 => ?_
      have nmp := fresh_ne k8.pot' nm
      have k9 : Dr p H5 H9 := ((k6.trans k7).trans k8).same s9
      repeat walk_at "rd"
      refine i_pick k9.pot' nlp (k9.keep _ _ nlp hl5) (by simp) (by simp) fun x H10 hx k10 => ?_
      repeat walk_at "rd"
      refine i_pick k10.pot' nmp (k10.keep _ _ nmp hm) (by simp) (by simp) fun y H11 hy k11 => ?_
      obtain ⟨x', rfl, zx⟩ : ∃ x' : Int, x = .int x' ∧ Sz 96 x' := by
        simp only [List.mem_cons, List.not_mem_nil, or_false] at hx
        rcases hx with rfl | rfl | rfl | rfl
        · exact ⟨_, rfl, by unfold Sz; decide⟩
        · exact ⟨_, rfl, by unfold Sz; omega⟩
        · exact ⟨_, rfl, by unfold Sz; omega⟩
        · exact ⟨_, rfl, zv⟩
      obtain ⟨y', rfl, py, zy⟩ : ∃ y' : Int, y = .int y' ∧ 0 < y' ∧ Sz 30 y' := by
        simp only [List.mem_cons, List.not_mem_nil, or_false] at hy
        rcases hy with rfl | rfl | rfl | rfl | rfl
        · exact ⟨_, rfl, by decide, by unfold Sz; decide⟩
        · exact ⟨_, rfl, by decide, by unfold Sz; decide⟩
        · exact ⟨_, rfl, by omega, by unfold Sz; omega⟩
        · exact ⟨_, rfl, by omega, by unfold Sz; omega⟩
        · exact ⟨_, rfl, by omega, by unfold Sz; omega⟩
      repeat walk_at "rd"
      have ny : y' ≠ 0 := by omega
      have kk : Dr p H H11 := ((k5.trans k9).trans k10).trans k11
      refine i_frac ny (sz_mono zx (by decide)) (sz_mono zy (by decide)) fun r H12 nr s12 fr => ?_
      exact q r H12 _ _ (kk.free nr) (kk.same s12) fr (lo_nu ny) (sz_nu ny zx) (sz_de ny zy)
  all_goals exact wide_mul (a := 5) (b := 40) (by decide) (by decide) (by decide) (by decide) (by decide)
theorem k_law_text (T : Txt W.K W.mg a) : Cl W 1 "_law_text" spText := by
  refine cl_of' T.d_law_text sc_law_text bd_law_text (fun vs H Q E ⟨x, t, b, h, _⟩ => by rw [h]; rfl) fun f cdv A outer s0 H vs Q E hr h => ?_
  obtain ⟨x, t, b, rfl, fr, z1, z2, q⟩ := h
  have l1 := it_len z1
  have l2 := it_len z2
  have ls : ("/" : Str).length = 1 := by decide +kernel
  unfold Rt at q
  refine ⟨_, (pss_one (ps_ret (pe_ifExp (pt_cmpR (r := rEqU W.K) (op_eqU hr.units) (pe_ix (r := rIx W.K) ix_U (pv 0) pe_int (fun _ _ => rfl)) pe_int (nomark _)) (pe_callTy call_strU (by rfl) T.b_str (by decide +kernel) (pa_cons (pe_ix (r := rIx W.K) ix_U (pv 0) pe_int (fun _ _ => rfl)) pa_nil)) (pe_op op_addU (pe_op op_addU (pe_callTy call_strU (by rfl) T.b_str (by decide +kernel) (pa_cons (pe_ix (r := rIx W.K) ix_U (pv 0) pe_int (fun _ _ => rfl)) pa_nil)) pe_str) (pe_callTy call_strU (by rfl) T.b_str (by decide +kernel) (pa_cons (pe_ix (r := rIx W.K) ix_U (pv 0) pe_int (fun _ _ => rfl)) pa_nil)))))), ?_⟩
  refine i_start (σ' := [some (V.ref x)]) rfl ?_
  repeat walk_at "rd"
  refine i_dec (fun h1 => ?_) (fun h1 => ?_)
  · rw [if_pos (V.int.inj h1)] at q
    repeat walk_at "rd"
    exact i_str_i z1 q
  · rw [if_neg (fun z => h1 (by rw [z]))] at q
    repeat walk_at "rd"
    refine i_str_i z1 ?_
    repeat walk_at "rd"
    refine i_add_s (sl_of (by omega)) ?_
    repeat walk_at "rd"
    refine i_str_i z2 ?_
    repeat walk_at "rd"
    refine i_add_s (sl_of (by rw [app_len]; omega)) q
end Lw

namespace Lw
open PySem PySem.Spec PyProof.Rows L2 Ly
local macro_rules | `(tactic| walk_at "rd") => `(tactic| first
  | ((with_reducible refine' i_var ?hv ?_); (case hv => exact rfl))
  | with_reducible refine i_c ?_
  | with_reducible refine i_op ?_
  | with_reducible refine i_cons ?_
  | with_reducible refine i_nil ?_
  | with_reducible refine i_cb ?_
  | with_reducible refine i_call ?_
  | with_reducible refine i_I0 ?_
  | with_reducible refine i_add_i ?_
  | with_reducible refine i_sub_i ?_
  | with_reducible refine i_md_i (by first | decide | assumption) ?_
  | ((with_reducible refine' i_md_i ?c ?_); rotate_left)
  | ((with_reducible refine' i_mul_i ?c ?_); rotate_left)
  | with_reducible refine i_fd_i (by decide) ?_
  | ((with_reducible refine' i_fd_i ?c ?_); rotate_left)
  | with_reducible refine i_int ?_
  | with_reducible refine i_abs ?_
  | with_reducible refine i_max2 ?_
  | with_reducible refine i_min2 ?_
  | with_reducible refine i_gcd ?_
  | with_reducible refine i_seq ?_
  | with_reducible refine i_if ?_
  | with_reducible refine i_asg ?_
  | with_reducible refine i_ret ?_
  | with_reducible refine i_drop ?_
  | with_reducible refine i_next ?_
  | with_reducible refine i_un ?_
  | with_reducible refine i_U ?_
  | ((with_reducible refine i_gname ?_); dsimp only [List.set])
  | with_reducible refine i_test ?_
  | with_reducible refine i_not ?_
  | with_reducible refine i_or ?_
  | with_reducible refine i_and ?_
  | with_reducible refine i_tb ?_
  | with_reducible refine i_andV ?_
  | with_reducible refine i_orV ?_
  | with_reducible refine i_notV ?_
  | with_reducible refine i_ifx ?_
  | with_reducible refine i_ext ?_
  | with_reducible refine i_exf ?_
  | with_reducible refine i_exn ?_
  | with_reducible refine i_itt ?_
  | with_reducible refine i_itf ?_
  | with_reducible refine i_gsub ?_
  | with_reducible refine i_nt ?_
  | with_reducible refine i_tup ?_
  | with_reducible refine i_lst ?_
  | with_reducible refine i_nf ?_
  | with_reducible refine i_isint ?_
  | ((with_reducible refine' i_top ?r ?_); (case r => walk_at "hp"))
  | ((with_reducible refine' i_bot ?r ?_); (case r => walk_at "hp"))
  | with_reducible refine i_fld ?_
  | with_reducible refine i_sfld ?_
  | with_reducible refine i_pp ?_
  | with_reducible refine i_meth ?_
  | with_reducible refine i_smeth ?_
  | with_reducible refine i_make ?_
  | with_reducible refine i_sl ?_
  | with_reducible refine i_noPart ?_
  | with_reducible refine i_part ?_
  | with_reducible refine i_smethK ?_
  | with_reducible refine i_sk1 ?_
  | with_reducible refine i_makeK ?_
  | with_reducible refine i_methK ?_
  | with_reducible refine i_mk11 ?_
  | ((with_reducible refine' i_rmk ?r ?h1 ?h2 ?_); (case r => walk_at "hp"); (case h1 => decide +kernel); (case h2 => decide +kernel))
  | with_reducible refine i_tpar ?_
  | ((with_reducible refine i_rpar ?_); dsimp only [List.set])
  | with_reducible refine i_eq_s rfl ?_
  | with_reducible refine i_ne_s rfl ?_
  | ((with_reducible refine' i_rtop ?r ?c ?n ?_); (case r => walk_at "hp"); (case c => assumption); (case n => assumption))
  | ((with_reducible refine' i_rbot ?r ?c ?n ?_); (case r => walk_at "hp"); (case c => assumption); (case n => assumption))
  | ((with_reducible refine' i_rpp ?r ?_); (case r => walk_at "hp"))
  | ((with_reducible refine' i_rmeth ?r ?h1 ?h2 ?_); (case r => walk_at "hp"); (case h1 => decide +kernel); (case h2 => decide +kernel))
  | ((with_reducible refine' i_ix_l ?hp ?ha ?_); (case hp => walk_at "hp"); (case ha => exact rfl))
  | ((with_reducible refine' i_len_l ?hp ?_); (case hp => walk_at "hp"))
  | ((with_reducible refine' i_ix_f0 ?hp ?_); (case hp => walk_at "hp"))
  | ((with_reducible refine' i_ix_f1 ?hp ?_); (case hp => walk_at "hp"))
  | ((with_reducible refine' i_ix_t ?hp ?ha ?_); (case hp => walk_at "hp"); (case ha => exact rfl)))
local macro_rules | `(tactic| walk_at "hp") => `(tactic| first
  | assumption
  | exact upd_same
  | exact SqL.of (by assumption)
  | (refine' Dr.tup (by assumption) ?hq; (case hq => walk_at "hp"))
  | (refine' FrL.same (by assumption) ?hq; (case hq => walk_at "hp"))
  | (refine' FracAt.same (by assumption) ?hq; (case hq => walk_at "hp"))
  | (refine' FracAt.nl (by assumption) ?hq; (case hq => walk_at "hp"))
  | (refine' RatAt.nl (by assumption) ?hq; (case hq => walk_at "hp"))
  | (refine' Num.nl (by assumption) ?hq; (case hq => walk_at "hp"))
  | (refine' FracAt.pk (by assumption) ?hq; (case hq => walk_at "hp"))
  | (refine' RatAt.pk (by assumption) ?hq; (case hq => walk_at "hp"))
  | (refine' Num.pk (by assumption) ?hq; (case hq => walk_at "hp"))
  | (refine' Dr.keep (by assumption) _ _ (by assumption) ?hq; (case hq => walk_at "hp"))
  | (refine' (show Same _ _ by assumption) _ _ ?hq; (case hq => walk_at "hp"))
  | (refine' RatAt.same (by assumption) ?hq; (case hq => walk_at "hp"))
  | (refine' Num.same (by assumption) ?hq; (case hq => walk_at "hp")))
local macro_rules | `(tactic| walk_at "sm") => `(tactic| first
  | assumption
  | exact Same.refl _
  | (refine' Same.kl (by assumption) (by assumption) ?aa; (case aa => walk_at "sm"))
  | (refine' Same.trans ?aa (by assumption); (case aa => walk_at "sm")))
local macro_rules | `(tactic| walk_at "dr") => `(tactic| first
  | assumption
  | (refine' Dr.same ?aa (by assumption); (case aa => walk_at "dr"))
  | (refine' Dr.trans ?aa (by assumption); (case aa => walk_at "dr")))

variable {W : Wd} {a : Ad}
theorem i_isR (T : Txt W.K W.mg a) {H : Hp} {Q : VK} {y : Addr} {t b : Int} (r : RatAt a.Ratio H y t b) (q : Q (.bl true) H) : rIsi W.K [.ref y, .ref a.Ratio] H Q := by
  obtain ⟨dx, e⟩ := r
  exact i_isiO (b := true) (.base (.ins e T.o_Ratio.cls T.o_Ratio.cl (by with_unfolding_all rfl) (by with_unfolding_all rfl) T.o_Ratio.mo)) T.o_Ratio.kO q
theorem i_isRi (T : Txt W.K W.mg a) {H : Hp} {Q : VK} {i : Int} (q : Q (.bl false) H) : rIsi W.K [.int i, .ref a.Ratio] H Q := i_isiO (b := false) (.base (.int i)) T.o_Ratio.kI q
theorem k_law_told (T : Txt W.K W.mg a) : Cl W 3 "_law_told" (spTold a.Ratio) := by
  refine cl_of' T.d_law_told sc_law_told bd_law_told (fun vs H Q E ⟨l, xs, ps, h, _⟩ => by rw [h]; rfl) fun f cdv A outer s0 H vs Q E hr h => ?_
  obtain ⟨l, xs, ps, rfl, hl, hlen, hz, hx, q⟩ := h
  have cR := T.o_Ratio.cls
  have nT := T.n_Ratio_top
  have nB := T.n_Ratio_bottom
  refine ⟨_, (pss_one (ps_ret (pe_lc (own := [("_law_made_here", 1)]) (g := (gName 1)) (tt := tYes) rfl sc_law_told.nd (pi_list (pv 0)) (blkOk_by (N := N_law_told) (sc := defScope s_law_told) (by decide +kernel)) (fun _ _ _ _ _ => (pg_name (i := 1) sc_law_told.nd rfl (Or.inl rfl))) (fun _ _ _ _ _ => pts_nil) (fun _ _ _ _ _ => (pe_ifExp (pt_val (pe_callB (r := rIsi W.K) call_isi (by rfl) T.b_isinstance (by decide +kernel) (pa_cons (pv 1) (pa_cons (pe_gn (v := .ref a.Ratio) (by rfl) T.o_Ratio.mg rfl) pa_nil)))) (pe_tup (pa_cons (pe_pp T.o_Ratio.cls (pp_top T) hr (by decide) (pv 1) rfl) (pa_cons (pe_pp T.o_Ratio.cls (pp_bottom T) hr (by decide) (pv 1) rfl) pa_nil))) pe_non))))), ?_⟩
  refine i_start (σ' := [some (V.ref l), none]) rfl ?_
  refine i_ret ?_
  refine i_lcL (K := W.K) (fun i H' v => ∀ p : Int × Int, ps[i]? = some p → ∃ y : Addr, v = V.ref y ∧ FracAt H' y p.1 p.2) rfl hl hz ?_ (fun x => rfl) ?_ ?_
  · intro i H1 H2 v n g p hp
    obtain ⟨y, e, fr⟩ := g p hp
    exact ⟨y, e, fr.nl n⟩
  · intro i x H' Q' hi s q'
    have hlt : i < ps.length := by
      rw [← hlen]
      exact (List.getElem?_eq_some_iff.mp hi).1
    obtain ⟨y, rfl, r⟩ := hx i x ps[i] hi (List.getElem?_eq_getElem hlt)
    have r2 := r.same s
    dsimp only [List.map, wipe, List.set]
    repeat walk_at "rd"
    refine i_isR T r2 ?_
    repeat walk_at "rd"
    refine i_mkT2 fun z H4 nz hz4 s4 => ?_
    refine q' _ H4 s4 fun p hp => ?_
    have e : ps[i] = p := by
      rw [List.getElem?_eq_getElem hlt] at hp
      exact Option.some.inj hp
    rw [← e]
    exact ⟨z, rfl, hz4⟩
  · intro r H' ys nr s hr' hy g
    refine q r H' nr s ⟨ys, hr', by omega, fun i v p h1 h2 => g i v h1 p h2⟩
theorem k_law_are_integers (T : Txt W.K W.mg a) : Cl W 1 "_law_are_integers" spInts := by
  refine cl_of' T.d_law_are_integers sc_law_are_integers bd_law_are_integers (fun vs H Q E ⟨l, ns, h, _⟩ => by rw [h]; rfl) fun f cdv A outer s0 H vs Q E hr h => ?_
  obtain ⟨l, ns, rfl, hl, hz, q⟩ := h
  refine ⟨_, (pss_one (ps_ret (pe_callB (r := rAll W.K) (cr_all rfl) (by rfl) T.b_all (by decide +kernel) (pa_cons (pe_lc (own := [("_law_made_here", 1)]) (g := (gName 1)) (tt := tYes) rfl sc_law_are_integers.nd (pi_list (pv 0)) (blkOk_by (N := N_law_are_integers) (sc := defScope s_law_are_integers) (by decide +kernel)) (fun _ _ _ _ _ => (pg_name (i := 1) sc_law_are_integers.nd rfl (Or.inl rfl))) (fun _ _ _ _ _ => pts_nil) (fun _ _ _ _ _ => (pe_and (pe_callB (r := rIsi W.K) call_isi (by rfl) T.b_isinstance (by decide +kernel) (pa_cons (pv 1) (pa_cons (pe_bltn (by rfl) T.b_int (by decide +kernel) (v := .ty "int") rfl) pa_nil))) (pe_one (pe_not (pe_callB (r := rIsi W.K) call_isi (by rfl) T.b_isinstance (by decide +kernel) (pa_cons (pv 1) (pa_cons (pe_bltn (by rfl) T.b_bool (by decide +kernel) (v := .ty "bool") rfl) pa_nil)))))))) pa_nil)))), ?_⟩
  refine i_start (σ' := [some (V.ref l), none]) rfl ?_
  refine i_ret ?_
  refine i_cb ?_
  refine i_cons ?_
  refine i_lcL (K := W.K) (xs := ns.map V.int) (fun i H' v => v = V.bl true) rfl hl (by rw [List.length_map]; exact hz) (fun _ _ _ _ _ g => g) (fun x => rfl) ?_ ?_
  · intro i x H' Q' hi s q'
    obtain ⟨n, rfl⟩ : ∃ n : Int, x = V.int n := by
      rw [List.getElem?_map] at hi
      cases h : ns[i]? with
      | none => rw [h] at hi; cases hi
      | some n => exact ⟨n, by rw [h] at hi; exact (Option.some.inj hi).symm⟩
    dsimp only [List.map, wipe, List.set]
    repeat walk_at "rd"
    refine i_isi (b := true) (.base (.int n)) (by decide +kernel) ?_
    repeat walk_at "rd"
    refine i_isi (b := false) (.base (.int n)) (by decide +kernel) ?_
    repeat walk_at "rd"
    exact q' _ _ (Same.refl _) rfl
  · intro r H' ys nr s hr' hy g
    repeat walk_at "rd"
    have ey : ys = (List.replicate ys.length true).map V.bl := by
      apply List.ext_getElem?
      intro i
      rw [List.getElem?_map]
      rcases Nat.lt_or_ge i ys.length with h | h
      · rw [List.getElem?_eq_getElem h, g i ys[i] (List.getElem?_eq_getElem h)]
        simp [h]
      · simp [h]
    refine ⟨r, List.replicate ys.length true, rfl, ?_, ?_⟩
    · rw [← ey]
      exact SqL.of hr'
    · rw [show (List.replicate ys.length true).all id = true by simp]
      exact q H' s
end Lw

namespace Ly
open PySem PySem.Spec PyProof.Rows L2
/-- digits of a number, as a text -/
structure Plain (x : Str) (n : Nat) : Prop where
  cps : x.cps.toList = TL.numL n
  len : x.length ≤ 640
def spPlain : Sp := fun vs H Q _ => ∃ (x : Str) (n : Nat), vs = [.str x] ∧ Plain x n ∧ ∀ H', Same H H' → Q (.bl true) H'
section
variable {K : PySem.W.Frag} {σ : L2.St} {H : Hp} {Q : VK} {te : TE} {x : Str} {n j : Nat} {vs : List Nat}
/-- over the signs of a text, no test -/
theorem i_lcS (G : Nat → Hp → V → Prop) (hv : σ[n]? = some (some (.str x))) (hz : x.length ≤ 1000) (mono : ∀ i H1 H2 v, NL H1 H2 → G i H1 v → G i H2 v) (hw : ∀ y, wipe ((wipe σ vs).set j (some y)) vs = wipe σ vs)
    (turn : ∀ i c H' (Q' : VK), x.cps[i]? = some c → Same H H' → (∀ y H4, Same H' H4 → G i H4 y → Q' y H4) → te ((wipe σ vs).set j (some (.str ⟨#[c]⟩))) H' Q')
    (fin : ∀ r H' ys, H r = none → Same H H' → H' r = some (.lst ys) → ys.length = x.length → (∀ i v, ys[i]? = some v → G i H' v) → Q (.ref r) H') : tLc (iStr (tVar n)) (gName j) tYes te vs σ H Q := by
  refine ⟨_, hv, x, rfl, fun D nD => ?_⟩
  have same0 : Same H (upd H D (.lst [])) := fun c o e => by
    rw [upd_ne (ne_of_none e nD)]
    exact e
  refine ⟨fun i m H' => m = x.cps.size - i ∧ i ≤ x.cps.size ∧ ∃ ys, H' D = some (.lst ys) ∧ ys.length = i ∧ Same H H' ∧ ∀ k v, ys[k]? = some v → G k H' v, ⟨_, rfl, Nat.zero_le _, [], upd_same, rfl, same0, fun m v e => by simp at e⟩, ?_⟩
  rintro i m H' ⟨rfl, hi, ys, hD, hy, s, g⟩
  by_cases h : i < x.cps.size
  · refine .inr ⟨h, fun H2 => ∃ ys, H2 D = some (.lst ys) ∧ ys.length = i + 1 ∧ Same H H2 ∧ ∀ k v, ys[k]? = some v → G k H2 v, fun H2 h2 => ⟨_, by omega, rfl, h, h2⟩, ?_⟩
    rintro v H2 ⟨rfl, c, hc, rfl⟩
    refine ⟨hw _, ?_⟩
    show te ((wipe σ vs).set j (some (.str ⟨#[c]⟩))) H2 _
    refine turn i c H2 _ hc s fun y H4 s4 gy => ⟨ys, s4 _ _ hD, by rw [hy]; exact small1000 (Nat.le_trans (Nat.le_of_lt h) hz), ys ++ [y], upd_same, by rw [List.length_append, hy]; rfl, fun c o e => ?_, fun k v e => ?_⟩
    · rw [upd_ne (ne_of_none e nD)]
      exact s4 _ _ (s _ _ e)
    · have kk := NL.upd (ys := ys ++ [y]) (s4 _ _ hD)
      rcases Nat.lt_or_ge k ys.length with h | h
      · rw [List.getElem?_append_left h] at e
        exact mono k _ _ v kk (mono k _ _ v (NL.same s4) (g k v e))
      · rw [List.getElem?_append_right h] at e
        have : k - ys.length = 0 := by
          have := (List.getElem?_eq_some_iff.mp e).1
          simp at this
          omega
        rw [this] at e
        have e2 : y = v := Option.some.inj e
        subst e2
        have : k = i := by omega
        subst this
        exact mono _ _ _ y kk gy
  · have e : i = x.cps.size := by omega
    subst e
    exact .inl ⟨Nat.le_refl _, fin D H' ys nD s hD hy g⟩
end
end Ly
namespace Lw
open PySem PySem.Spec PyProof.Rows L2 Ly
local macro_rules | `(tactic| walk_at "rd") => `(tactic| first
  | ((with_reducible refine' i_var ?hv ?_); (case hv => exact rfl))
  | with_reducible refine i_c ?_
  | with_reducible refine i_op ?_
  | with_reducible refine i_cons ?_
  | with_reducible refine i_nil ?_
  | with_reducible refine i_cb ?_
  | with_reducible refine i_call ?_
  | with_reducible refine i_I0 ?_
  | with_reducible refine i_add_i ?_
  | with_reducible refine i_sub_i ?_
  | with_reducible refine i_md_i (by first | decide | assumption) ?_
  | ((with_reducible refine' i_md_i ?c ?_); rotate_left)
  | ((with_reducible refine' i_mul_i ?c ?_); rotate_left)
  | with_reducible refine i_fd_i (by decide) ?_
  | ((with_reducible refine' i_fd_i ?c ?_); rotate_left)
  | with_reducible refine i_int ?_
  | with_reducible refine i_abs ?_
  | with_reducible refine i_max2 ?_
  | with_reducible refine i_min2 ?_
  | with_reducible refine i_gcd ?_
  | with_reducible refine i_seq ?_
  | with_reducible refine i_if ?_
  | with_reducible refine i_asg ?_
  | with_reducible refine i_ret ?_
  | with_reducible refine i_drop ?_
  | with_reducible refine i_next ?_
  | with_reducible refine i_un ?_
  | with_reducible refine i_U ?_
  | ((with_reducible refine i_gname ?_); dsimp only [List.set])
  | with_reducible refine i_test ?_
  | with_reducible refine i_not ?_
  | with_reducible refine i_tb ?_
  | with_reducible refine i_andV ?_
  | with_reducible refine i_orV ?_
  | with_reducible refine i_notV ?_
  | with_reducible refine i_ifx ?_
  | with_reducible refine i_ext ?_
  | with_reducible refine i_exf ?_
  | with_reducible refine i_exn ?_
  | with_reducible refine i_itt ?_
  | with_reducible refine i_itf ?_
  | with_reducible refine i_gsub ?_
  | with_reducible refine i_nt ?_
  | with_reducible refine i_tup ?_
  | with_reducible refine i_lst ?_
  | with_reducible refine i_nf ?_
  | with_reducible refine i_isint ?_
  | ((with_reducible refine' i_top ?r ?_); (case r => walk_at "hp"))
  | ((with_reducible refine' i_bot ?r ?_); (case r => walk_at "hp"))
  | with_reducible refine i_fld ?_
  | with_reducible refine i_sfld ?_
  | with_reducible refine i_pp ?_
  | with_reducible refine i_meth ?_
  | with_reducible refine i_smeth ?_
  | with_reducible refine i_make ?_
  | with_reducible refine i_sl ?_
  | with_reducible refine i_noPart ?_
  | with_reducible refine i_part ?_
  | with_reducible refine i_smethK ?_
  | with_reducible refine i_sk1 ?_
  | with_reducible refine i_makeK ?_
  | with_reducible refine i_methK ?_
  | with_reducible refine i_mk11 ?_
  | ((with_reducible refine' i_rmk ?r ?h1 ?h2 ?_); (case r => walk_at "hp"); (case h1 => decide +kernel); (case h2 => decide +kernel))
  | with_reducible refine i_tpar ?_
  | ((with_reducible refine i_rpar ?_); dsimp only [List.set])
  | with_reducible refine i_eq_s rfl ?_
  | with_reducible refine i_ne_s rfl ?_
  | ((with_reducible refine' i_rtop ?r ?c ?n ?_); (case r => walk_at "hp"); (case c => assumption); (case n => assumption))
  | ((with_reducible refine' i_rbot ?r ?c ?n ?_); (case r => walk_at "hp"); (case c => assumption); (case n => assumption))
  | ((with_reducible refine' i_rpp ?r ?_); (case r => walk_at "hp"))
  | ((with_reducible refine' i_rmeth ?r ?h1 ?h2 ?_); (case r => walk_at "hp"); (case h1 => decide +kernel); (case h2 => decide +kernel))
  | ((with_reducible refine' i_ix_l ?hp ?ha ?_); (case hp => walk_at "hp"); (case ha => exact rfl))
  | ((with_reducible refine' i_len_l ?hp ?_); (case hp => walk_at "hp"))
  | ((with_reducible refine' i_ix_f0 ?hp ?_); (case hp => walk_at "hp"))
  | ((with_reducible refine' i_ix_f1 ?hp ?_); (case hp => walk_at "hp"))
  | ((with_reducible refine' i_ix_t ?hp ?ha ?_); (case hp => walk_at "hp"); (case ha => exact rfl)))
local macro_rules | `(tactic| walk_at "hp") => `(tactic| first
  | assumption
  | exact upd_same
  | exact SqL.of (by assumption)
  | (refine' Dr.tup (by assumption) ?hq; (case hq => walk_at "hp"))
  | (refine' FrL.same (by assumption) ?hq; (case hq => walk_at "hp"))
  | (refine' FracAt.same (by assumption) ?hq; (case hq => walk_at "hp"))
  | (refine' FracAt.nl (by assumption) ?hq; (case hq => walk_at "hp"))
  | (refine' RatAt.nl (by assumption) ?hq; (case hq => walk_at "hp"))
  | (refine' Num.nl (by assumption) ?hq; (case hq => walk_at "hp"))
  | (refine' FracAt.pk (by assumption) ?hq; (case hq => walk_at "hp"))
  | (refine' RatAt.pk (by assumption) ?hq; (case hq => walk_at "hp"))
  | (refine' Num.pk (by assumption) ?hq; (case hq => walk_at "hp"))
  | (refine' Dr.keep (by assumption) _ _ (by assumption) ?hq; (case hq => walk_at "hp"))
  | (refine' (show Same _ _ by assumption) _ _ ?hq; (case hq => walk_at "hp"))
  | (refine' RatAt.same (by assumption) ?hq; (case hq => walk_at "hp"))
  | (refine' Num.same (by assumption) ?hq; (case hq => walk_at "hp")))
local macro_rules | `(tactic| walk_at "sm") => `(tactic| first
  | assumption
  | exact Same.refl _
  | (refine' Same.kl (by assumption) (by assumption) ?aa; (case aa => walk_at "sm"))
  | (refine' Same.trans ?aa (by assumption); (case aa => walk_at "sm")))
local macro_rules | `(tactic| walk_at "dr") => `(tactic| first
  | assumption
  | (refine' Dr.same ?aa (by assumption); (case aa => walk_at "dr"))
  | (refine' Dr.trans ?aa (by assumption); (case aa => walk_at "dr")))

variable {W : Wd} {a : Ad}
theorem zero_cps : ("0" : Str).cps.toList = [48] := by decide +kernel
theorem nine_cps : ("9" : Str).cps.toList = [57] := by decide +kernel
theorem numL_head {n : Nat} (h : 0 < n) : ∃ c cs, TL.numL n = c :: cs ∧ c ≠ 48 := by
  induction n using Nat.strongRecOn with
  | ind n ih =>
    rcases Nat.lt_or_ge n 10 with k | k
    · exact ⟨48 + n, [], TL.numL_lt k, by omega⟩
    · obtain ⟨c, cs, e, nc⟩ := ih (n / 10) (by omega) (by omega)
      exact ⟨c, cs ++ [48 + n % 10], by rw [TL.numL_step k, e]; rfl, nc⟩
theorem k_is_plain_count (T : Txt W.K W.mg a) : Cl W 1 "is_plain_count" spPlain := by
  refine cl_of' T.d_is_plain_count sc_is_plain_count bd_is_plain_count (fun vs H Q E ⟨x, n, h, _⟩ => by rw [h]; rfl) fun f cdv A outer s0 H vs Q E hr h => ?_
  obtain ⟨x, n, rfl, pl, q⟩ := h
  have ne : ¬ V.str x = V.str "" := by
    intro z
    have := V.str.inj z
    have l := pl.cps
    rw [this] at l
    exact TL.numL_ne n (by rw [← l]; decide +kernel)
  refine ⟨_, (pss_cons (ps_if (PW.pt (pw_or (pt_cmpR (r := rEqU W.K) (op_eqU hr.units) (pv 0) pe_str (nomark _)) (pw_or1 (pt_not (pt_val (pe_callB (r := rAll W.K) (cr_all rfl) (by rfl) T.b_all (by decide +kernel) (pa_cons (pe_lc (own := [("sign", 1)]) (g := (gName 1)) (tt := tYes) rfl sc_is_plain_count.nd (pi_str (pv 0)) (blkOk_by (N := N_is_plain_count) (sc := defScope s_is_plain_count) (by decide +kernel)) (fun _ _ _ _ _ => (pg_name (i := 1) sc_is_plain_count.nd rfl (Or.inl rfl))) (fun _ _ _ _ _ => pts_nil) (fun _ _ _ _ _ => (pe_chain op_le_str op_le_str pe_str (pv 1) pe_str))) pa_nil))))))) (pss_one (ps_ret pe_bl)) pss_nil) (pss_one (ps_ret (pe_or (pe_cmpR (r := rEqU W.K) (op_eqU hr.units) (pv 0) pe_str (nomark _)) (pe_one (pe_cmpR (r := rNeU W.K) (op_neU hr.units) (pe_ix (r := rIx W.K) ix_U (pv 0) pe_int (fun _ _ => rfl)) pe_str (nomark _))))))), ?_⟩
  refine i_start (σ' := [some (V.str x), none]) rfl ?_
  repeat walk_at "rd"
  refine i_or ?_
  repeat walk_at "rd"
  rw [decide_eq_false ne]
  repeat walk_at "rd"
  refine i_lcS (fun i H' v => v = V.bl true) rfl (Nat.le_trans pl.len (by decide)) (fun _ _ _ _ _ g => g) (fun x => rfl) ?_ ?_
  · intro i c H' Q' hc s q'
    have dc : 48 ≤ c ∧ c ≤ 57 := by
      have hm : c ∈ TL.numL n := by
        rw [← pl.cps]
        exact Array.mem_toList_iff.mpr (Array.mem_of_getElem? hc)
      have := TL.numL_digits n
      rcases Nat.lt_or_ge c 48 with k | k
      · exact absurd hm (TL.numL_free (.inl k))
      · rcases Nat.lt_or_ge 57 c with k2 | k2
        · exact absurd hm (TL.numL_free (.inr k2))
        · exact ⟨k, k2⟩
    dsimp only [List.map, wipe, List.set]
    have e1 : decide (([c] : List Nat) < ("0" : Str).cps.toList) = false := by
      rw [zero_cps]
      refine decide_eq_false fun z => ?_
      rw [List.cons_lt_cons_iff] at z
      rcases z with z | ⟨_, z⟩
      · omega
      · cases z
    have e2 : decide (("9" : Str).cps.toList < ([c] : List Nat)) = false := by
      rw [nine_cps]
      refine decide_eq_false fun z => ?_
      rw [List.cons_lt_cons_iff] at z
      rcases z with z | ⟨_, z⟩
      · omega
      · cases z
    refine ⟨_, rfl, ("0" : Str), ⟨#[c]⟩, rfl, rfl, _, rfl, ?_⟩
    show if (!decide (([c] : List Nat) < ("0" : Str).cps.toList)) = true then _ else _
    rw [e1]
    refine i_itt ?_
    refine ⟨⟨#[c]⟩, ("9" : Str), rfl, rfl, ?_⟩
    show Q' (.bl (!decide (("9" : Str).cps.toList < ([c] : List Nat)))) H'
    rw [e2]
    exact q' _ _ (Same.refl _) rfl
  · intro r H' ys nr s hr' hy g
    repeat walk_at "rd"
    have ey : ys = (List.replicate ys.length true).map V.bl := by
      apply List.ext_getElem?
      intro i
      rw [List.getElem?_map]
      rcases Nat.lt_or_ge i ys.length with h | h
      · rw [List.getElem?_eq_getElem h, g i ys[i] (List.getElem?_eq_getElem h)]
        simp [h]
      · simp [h]
    refine ⟨r, List.replicate ys.length true, rfl, ?_, ?_⟩
    · rw [← ey]
      exact SqL.of hr'
    · rw [show (List.replicate ys.length true).all id = true by simp]
      repeat walk_at "rd"
      rcases Nat.eq_zero_or_pos n with h0 | h0
      · have ex : x = ("0" : Str) := str_ext (by rw [pl.cps, h0, zero_cps]; exact TL.numL_lt (by decide))
        rw [decide_eq_true (by rw [ex])]
        repeat walk_at "rd"
        exact q H' s
      · obtain ⟨c, cs, hc, nc⟩ := numL_head h0
        have lx : x.cps.toList = c :: cs := pl.cps.trans hc
        have n0 : ¬ V.str x = V.str ("0" : Str) := by
          intro z
          rw [V.str.inj z, zero_cps] at lx
          exact nc (List.cons.inj lx).1.symm
        rw [decide_eq_false n0]
        repeat walk_at "rd"
        refine .inr (.inr ⟨x, 0, c, rfl, rfl, Nat.le_trans pl.len (by decide), atI_nat (j := 0) (by rw [lx]; rfl), ?_⟩)
        repeat walk_at "rd"
        have n1 : ¬ V.str ⟨#[c]⟩ = V.str ("0" : Str) := by
          intro z
          have l := congrArg (fun z : Str => z.cps.toList) (V.str.inj z)
          simp only [zero_cps] at l
          exact nc (List.cons.inj l).1
        rw [decide_eq_false n1]
        exact q H' s
theorem it_len6 {i : Int} (h : Sz 600 i) : (It i).length ≤ 601 := by
  have h2 : i.natAbs.log2 < 600 := PySem.Flt.log2_lt_of (by decide) h
  have e := int_text_length_le (k := 600) (by decide) h2
  unfold Ly.It
  rw [PySem.ofString_length]
  omega
theorem it_len6n {i : Int} (h : Sz 600 i) : (TL.numL i.natAbs).length ≤ 601 := by
  have l := it_len6 h
  have e : (It i).length = (It i).cps.toList.length := by
    show (It i).cps.size = _
    rw [Array.length_toList]
  rcases it_cases i with ⟨_, k⟩ | ⟨_, k⟩
  · rw [← k]
    omega
  · rw [k] at e
    rw [List.length_cons] at e
    omega
theorem read_it {i : Int} (h : Sz 600 i) : intText? (It i) = some i := by
  have l := it_len6 h
  have ln := it_len6n h
  rcases it_cases i with ⟨p, k⟩ | ⟨p, k⟩
  · have e := TL.int_num (n := i.natAbs) (by omega)
    rw [show (i.natAbs : Int) = i by omega] at e
    exact e
  · have e := intText_neg k (TL.numL_digits _) (TL.numL_ne _) (by omega)
    rw [TL.numL_val, show -(i.natAbs : Int) = i by omega] at e
    exact e
theorem pre_it {i : Int} (h : Sz 600 i) : Plain (Txt.removeprefix (It i) ("-" : Str)) i.natAbs := by
  have l := it_len6 h
  have ln := it_len6n h
  rcases it_cases i with ⟨p, k⟩ | ⟨p, k⟩
  · obtain ⟨c, cs, e⟩ := List.exists_cons_of_ne_nil (TL.numL_ne i.natAbs)
    have hc : c ≠ 45 := by
      intro z
      have hm : c ∈ TL.numL i.natAbs := by
        rw [e]
        exact List.mem_cons_self ..
      exact TL.numL_free (.inl (by omega)) hm
    rw [pre_no (k.trans e) hc]
    exact ⟨k, by omega⟩
  · have q := pre_yes k
    refine ⟨q, ?_⟩
    show (Txt.removeprefix (It i) ("-" : Str)).cps.size ≤ 640
    rw [← Array.length_toList, q]
    omega
theorem plain_it {i : Int} (h0 : 0 ≤ i) (h : Sz 600 i) : Plain (It i) i.natAbs := by
  have l := it_len6 h
  rcases it_cases i with ⟨p, k⟩ | ⟨p, k⟩
  · exact ⟨k, by omega⟩
  · omega
theorem rt_len {t b : Int} (z1 : Sz 600 t) (z2 : Sz 600 b) : (Rt t b).length ≤ 1300 := by
  have l1 := it_len6 z1
  have l2 := it_len6 z2
  have ls : ("/" : Str).length = 1 := by decide +kernel
  unfold Rt
  split
  · omega
  · rw [app_len, app_len]
    omega
def spLoose (C : Addr) : Sp := fun vs H Q _ => ∃ t b : Int, vs = [.str (Rt t b)] ∧ Lo t b ∧ Sz 600 t ∧ Sz 600 b ∧ ∀ r H', Same H H' → RatAt C H' r t b → Q (.ref r) H'
theorem k_loosely_read (T : Txt W.K W.mg a) : Cl W 4 "loosely_read" (spLoose a.Ratio) := by
  refine cl_of' T.d_loosely_read sc_loosely_read bd_loosely_read (fun vs H Q E ⟨t, b, h, _⟩ => by rw [h]; rfl) fun f cdv A outer s0 H vs Q E hr h => ?_
  obtain ⟨t, b, rfl, lo, z1, z2, q⟩ := h
  have l1 := it_len6 z1
  have l2 := it_len6 z2
  have lr := rt_len z1 z2
  have sl : ("/" : Str).length = 1 := by decide +kernel
  refine ⟨_, (pss_cons (ps_asg (pe_partition (pv 0) pe_str) (pg_tup rfl (pgs_cons (pg_name (i := 1) sc_loosely_read.nd rfl (Or.inl rfl)) (pgs_cons (pg_name (i := 2) sc_loosely_read.nd rfl (Or.inl rfl)) (pgs_cons (pg_name (i := 3) sc_loosely_read.nd rfl (Or.inl rfl)) pgs_nil))))) (pss_cons (ps_if (pt_not (pt_val (pe_cl (k_is_plain_count T) hr (by decide) rfl (pa_cons (pe_bm PySem.F.plainAttrs_str PySem.F.slot_str_removeprefix PySem.F.type_str_removeprefix mt_removeprefix (pv 1) (pa_cons pe_str pa_nil)) pa_nil)))) (pss_one (ps_ret pe_non)) pss_nil) (pss_cons (ps_if (pt_cmpR (r := rEqU W.K) (op_eqU hr.units) (pv 2) pe_str (nomark _)) (pss_one (ps_ret (pe_mak (m_Ratio1 T) hr (by decide) rfl (pa_cons (pe_callTy call_int_str (by rfl) T.b_int (by decide +kernel) (pa_cons (pv 1) pa_nil)) pa_nil)))) pss_nil) (pss_cons (ps_if (PW.pt (pw_or (pt_not (pt_val (pe_cl (k_is_plain_count T) hr (by decide) rfl (pa_cons (pv 3) pa_nil)))) (pw_or1 (pt_cmpR (r := rEqU W.K) (op_eqU hr.units) (pv 3) pe_str (nomark _))))) (pss_one (ps_ret pe_non)) pss_nil) (pss_one (ps_ret (pe_mak (m_Ratio2 T) hr (by decide) rfl (pa_cons (pe_callTy call_int_str (by rfl) T.b_int (by decide +kernel) (pa_cons (pv 1) pa_nil)) (pa_cons (pe_callTy call_int_str (by rfl) T.b_int (by decide +kernel) (pa_cons (pv 3) pa_nil)) pa_nil))))))))), ?_⟩
  refine i_start (σ' := [some (V.str (Rt t b)), none, none, none]) rfl ?_
  repeat walk_at "rd"
  refine ⟨_, rfl, ⟨_, rfl⟩, ?_⟩
  refine ⟨Rt t b, ("/" : Str), rfl, rfl, by rw [sl]; rfl, Nat.le_trans lr (by decide), ?_⟩
  by_cases hb : b = 1
  · have e : Rt t b = It t := by
      unfold Rt
      rw [if_pos hb]
    have ep : Txt.partition (Rt t b) ("/" : Str) = (It t, Str.empty, Str.empty) := by
      rw [e]
      exact part_no it_free
    rw [ep]
    intro p np
    have s1 := same_upd (o := .tup [.str (It t), .str Str.empty, .str Str.empty]) np
    refine ⟨p, _, rfl, SqT.of upd_same, rfl, _, _, rfl, ?_⟩
    repeat walk_at "rd"
    refine ⟨_, _, rfl, ?_⟩
    repeat walk_at "rd"
    refine ⟨_, _, rfl, ?_⟩
    repeat walk_at "rd"
    refine ⟨rfl, ?_⟩
    repeat walk_at "rd"
    refine ⟨_, rfl, rfl, ?_⟩
    repeat walk_at "rd"
    refine ⟨It t, ("-" : Str), rfl, rfl, Nat.le_trans l1 (by decide), ?_⟩
    repeat walk_at "rd"
    refine ⟨_, _, rfl, pre_it z1, fun H2 s2 => ?_⟩
    repeat walk_at "rd"
    rw [show decide (V.str Str.empty = V.str ("" : Str)) = true from decide_eq_true (by decide +kernel)]
    repeat walk_at "rd"
    refine ⟨It t, t, rfl, read_it z1, by omega, ?_⟩
    repeat walk_at "rd"
    exact i_mk1 (sz_mono z1 (by decide)) fun r H3 _ s3 r3 => q r H3 ((s1.trans s2).trans s3) (by rw [hb]; exact r3)
  · have e : Rt t b = It t ++ ("/" : Str) ++ It b := by
      unfold Rt
      rw [if_neg hb]
    have ep : Txt.partition (Rt t b) ("/" : Str) = (It t, ("/" : Str), It b) := part_yes e it_free it_free
    rw [ep]
    intro p np
    have s1 := same_upd (o := .tup [.str (It t), .str ("/" : Str), .str (It b)]) np
    refine ⟨p, _, rfl, SqT.of upd_same, rfl, _, _, rfl, ?_⟩
    repeat walk_at "rd"
    refine ⟨_, _, rfl, ?_⟩
    repeat walk_at "rd"
    refine ⟨_, _, rfl, ?_⟩
    repeat walk_at "rd"
    refine ⟨rfl, ?_⟩
    repeat walk_at "rd"
    refine ⟨_, rfl, rfl, ?_⟩
    repeat walk_at "rd"
    refine ⟨It t, ("-" : Str), rfl, rfl, Nat.le_trans l1 (by decide), ?_⟩
    repeat walk_at "rd"
    refine ⟨_, _, rfl, pre_it z1, fun H2 s2 => ?_⟩
    repeat walk_at "rd"
    rw [show decide (V.str ("/" : Str) = V.str ("" : Str)) = false from decide_eq_false (by decide +kernel)]
    repeat walk_at "rd"
    refine i_or ?_
    repeat walk_at "rd"
    refine ⟨_, _, rfl, plain_it (Int.le_of_lt lo.pos) z2, fun H3 s3 => ?_⟩
    repeat walk_at "rd"
    have nz : ¬ V.str (It b) = V.str ("0" : Str) := by
      intro z
      have e1 := read_it z2
      have e2 := read_it (i := 0) (by unfold Sz; decide)
      rw [V.str.inj z, show ("0" : Str) = It 0 by decide +kernel, e2] at e1
      have := lo.pos
      have := Option.some.inj e1
      omega
    rw [decide_eq_false nz]
    repeat walk_at "rd"
    refine ⟨It t, t, rfl, read_it z1, by omega, ?_⟩
    repeat walk_at "rd"
    refine ⟨It b, b, rfl, read_it z2, by omega, ?_⟩
    repeat walk_at "rd"
    refine i_mk2 (Int.ne_of_gt lo.pos) (sz_mono z1 (by decide)) (sz_mono z2 (by decide)) fun r H4 _ s4 r4 => ?_
    rw [lo.nu, lo.de] at r4
    exact q r H4 (((s1.trans s2).trans s3).trans s4) r4
theorem k_written (T : Txt W.K W.mg a) : Cl W 8 "written" (spRead a.Ratio) := by
  refine cl_of' T.d_written sc_written bd_written (fun vs H Q E ⟨t, b, h, _⟩ => by rw [h]; rfl) fun f cdv A outer s0 H vs Q E hr h => ?_
  obtain ⟨t, b, rfl, lo, z1, z2, q⟩ := h
  refine ⟨_, (pss_cons (ps_set (i := 1) sc_written.nd rfl (Or.inl rfl) (pe_cl (k_loosely_read T) hr (by decide) rfl (pa_cons (pv 0) pa_nil))) (pss_one (ps_ret (pe_ifExp (PW.pt (pw_and (pt_cmpR op_notN (pv 1) pe_non (nomark _)) (pw_and1 (pt_cmpR (r := rEqU W.K) (op_eqU hr.units) (pe_callTy (str_m (mt_str T) hr (by decide)) (by rfl) T.b_str (by decide +kernel) (pa_cons (pv 1) pa_nil)) (pv 0) (nomark _))))) (pv 1) pe_non)))), ?_⟩
  refine i_start (σ' := [some (V.str (Rt t b)), none]) rfl ?_
  repeat walk_at "rd"
  refine ⟨t, b, rfl, lo, z1, z2, fun r H1 s1 r1 => ?_⟩
  repeat walk_at "rd"
  refine i_and ?_
  repeat walk_at "rd"
  refine ⟨rfl, ?_⟩
  refine ⟨_, rfl, ?_⟩
  rw [decide_eq_false (show ¬ V.ref r = V.non by intro z; cases z)]
  repeat walk_at "rd"
  refine i_strR r1 (sz_mono z1 (by decide)) (sz_mono z2 (by decide)) ?_
  repeat walk_at "rd"
  rw [decide_eq_true rfl]
  repeat walk_at "rd"
  exact q r H1 s1 r1
theorem sm_read (T : Txt W.K W.mg a) : Sm W 9 a.Ratio "read" (spRead a.Ratio) := by
  refine Ly.sm_of T.d_Ratio_read sc_Ratio_read bd_Ratio_read (fun vs H Q E ⟨t, b, h, _⟩ => by rw [h]; rfl) fun f cdv A outer s0 H vs Q E hr h => ?_
  obtain ⟨t, b, rfl, lo, z1, z2, q⟩ := h
  refine ⟨_, (pss_cons (ps_if (pt_not (pt_val (pe_callB (r := rIsi W.K) call_isi (by rfl) T.b_isinstance (by decide +kernel) (pa_cons (pv 0) (pa_cons (pe_bltn (by rfl) T.b_str (by decide +kernel) (v := .ty "str") rfl) pa_nil))))) (pss_one ps_never) pss_nil) (pss_cons (ps_set (i := 1) sc_Ratio_read.nd rfl (Or.inl rfl) (pe_cl (k_written T) hr (by decide) rfl (pa_cons (pv 0) pa_nil))) (pss_cons (ps_if (pt_cmpR op_isN (pv 1) pe_non (nomark _)) (pss_one ps_never) pss_nil) (pss_one (ps_ret (pv 1)))))), ?_⟩
  refine i_start (σ' := [some (V.str (Rt t b)), none]) rfl ?_
  repeat walk_at "rd"
  refine i_isi (b := true) (.base (.str _)) (by decide +kernel) ?_
  repeat walk_at "rd"
  refine ⟨t, b, rfl, lo, z1, z2, fun r H1 s1 r1 => ?_⟩
  repeat walk_at "rd"
  refine ⟨rfl, ?_⟩
  refine ⟨_, rfl, ?_⟩
  rw [decide_eq_false (show ¬ V.ref r = V.non by intro z; cases z)]
  repeat walk_at "rd"
  exact q r H1 s1 r1
end Lw

namespace Lw
open PySem PySem.Spec PyProof.Rows L2 Ly
local macro_rules | `(tactic| walk_at "rd") => `(tactic| first
  | ((with_reducible refine' i_var ?hv ?_); (case hv => exact rfl))
  | with_reducible refine i_c ?_
  | with_reducible refine i_op ?_
  | with_reducible refine i_cons ?_
  | with_reducible refine i_nil ?_
  | with_reducible refine i_cb ?_
  | with_reducible refine i_call ?_
  | with_reducible refine i_I0 ?_
  | with_reducible refine i_add_i ?_
  | with_reducible refine i_sub_i ?_
  | with_reducible refine i_md_i (by first | decide | assumption) ?_
  | ((with_reducible refine' i_md_i ?c ?_); rotate_left)
  | ((with_reducible refine' i_mul_i ?c ?_); rotate_left)
  | with_reducible refine i_fd_i (by decide) ?_
  | ((with_reducible refine' i_fd_i ?c ?_); rotate_left)
  | with_reducible refine i_int ?_
  | with_reducible refine i_abs ?_
  | with_reducible refine i_max2 ?_
  | with_reducible refine i_min2 ?_
  | with_reducible refine i_gcd ?_
  | with_reducible refine i_seq ?_
  | with_reducible refine i_if ?_
  | with_reducible refine i_asg ?_
  | with_reducible refine i_ret ?_
  | with_reducible refine i_drop ?_
  | with_reducible refine i_next ?_
  | with_reducible refine i_un ?_
  | with_reducible refine i_U ?_
  | ((with_reducible refine i_gname ?_); dsimp only [List.set])
  | with_reducible refine i_test ?_
  | with_reducible refine i_not ?_
  | with_reducible refine i_or ?_
  | with_reducible refine i_and ?_
  | with_reducible refine i_tb ?_
  | with_reducible refine i_andV ?_
  | with_reducible refine i_orV ?_
  | with_reducible refine i_notV ?_
  | with_reducible refine i_ifx ?_
  | with_reducible refine i_ext ?_
  | with_reducible refine i_exf ?_
  | with_reducible refine i_exn ?_
  | with_reducible refine i_itt ?_
  | with_reducible refine i_itf ?_
  | with_reducible refine i_gsub ?_
  | with_reducible refine i_nt ?_
  | with_reducible refine i_tup ?_
  | with_reducible refine i_lst ?_
  | with_reducible refine i_nf ?_
  | with_reducible refine i_isint ?_
  | ((with_reducible refine' i_top ?r ?_); (case r => walk_at "hp"))
  | ((with_reducible refine' i_bot ?r ?_); (case r => walk_at "hp"))
  | with_reducible refine i_fld ?_
  | with_reducible refine i_sfld ?_
  | with_reducible refine i_pp ?_
  | with_reducible refine i_meth ?_
  | with_reducible refine i_smeth ?_
  | with_reducible refine i_make ?_
  | with_reducible refine i_sl ?_
  | with_reducible refine i_noPart ?_
  | with_reducible refine i_part ?_
  | with_reducible refine i_smethK ?_
  | with_reducible refine i_sk1 ?_
  | with_reducible refine i_makeK ?_
  | with_reducible refine i_methK ?_
  | with_reducible refine i_mk11 ?_
  | ((with_reducible refine' i_rmk ?r ?h1 ?h2 ?_); (case r => walk_at "hp"); (case h1 => decide +kernel); (case h2 => decide +kernel))
  | with_reducible refine i_tpar ?_
  | ((with_reducible refine i_rpar ?_); dsimp only [List.set])
  | with_reducible refine i_eq_s rfl ?_
  | with_reducible refine i_ne_s rfl ?_
  | ((with_reducible refine' i_rtop ?r ?c ?n ?_); (case r => walk_at "hp"); (case c => assumption); (case n => assumption))
  | ((with_reducible refine' i_rbot ?r ?c ?n ?_); (case r => walk_at "hp"); (case c => assumption); (case n => assumption))
  | ((with_reducible refine' i_rpp ?r ?_); (case r => walk_at "hp"))
  | ((with_reducible refine' i_rmeth ?r ?h1 ?h2 ?_); (case r => walk_at "hp"); (case h1 => decide +kernel); (case h2 => decide +kernel))
  | ((with_reducible refine' i_ix_l ?hp ?ha ?_); (case hp => walk_at "hp"); (case ha => exact rfl))
  | ((with_reducible refine' i_len_l ?hp ?_); (case hp => walk_at "hp"))
  | ((with_reducible refine' i_ix_f0 ?hp ?_); (case hp => walk_at "hp"))
  | ((with_reducible refine' i_ix_f1 ?hp ?_); (case hp => walk_at "hp"))
  | ((with_reducible refine' i_ix_t ?hp ?ha ?_); (case hp => walk_at "hp"); (case ha => exact rfl)))
local macro_rules | `(tactic| walk_at "hp") => `(tactic| first
  | assumption
  | exact upd_same
  | exact SqL.of (by assumption)
  | (refine' Dr.tup (by assumption) ?hq; (case hq => walk_at "hp"))
  | (refine' FrL.same (by assumption) ?hq; (case hq => walk_at "hp"))
  | (refine' FracAt.same (by assumption) ?hq; (case hq => walk_at "hp"))
  | (refine' FracAt.nl (by assumption) ?hq; (case hq => walk_at "hp"))
  | (refine' RatAt.nl (by assumption) ?hq; (case hq => walk_at "hp"))
  | (refine' Num.nl (by assumption) ?hq; (case hq => walk_at "hp"))
  | (refine' FracAt.pk (by assumption) ?hq; (case hq => walk_at "hp"))
  | (refine' RatAt.pk (by assumption) ?hq; (case hq => walk_at "hp"))
  | (refine' Num.pk (by assumption) ?hq; (case hq => walk_at "hp"))
  | (refine' Dr.keep (by assumption) _ _ (by assumption) ?hq; (case hq => walk_at "hp"))
  | (refine' (show Same _ _ by assumption) _ _ ?hq; (case hq => walk_at "hp"))
  | (refine' RatAt.same (by assumption) ?hq; (case hq => walk_at "hp"))
  | (refine' Num.same (by assumption) ?hq; (case hq => walk_at "hp")))
local macro_rules | `(tactic| walk_at "sm") => `(tactic| first
  | assumption
  | exact Same.refl _
  | (refine' Same.kl (by assumption) (by assumption) ?aa; (case aa => walk_at "sm"))
  | (refine' Same.trans ?aa (by assumption); (case aa => walk_at "sm")))
local macro_rules | `(tactic| walk_at "dr") => `(tactic| first
  | assumption
  | (refine' Dr.same ?aa (by assumption); (case aa => walk_at "dr"))
  | (refine' Dr.trans ?aa (by assumption); (case aa => walk_at "dr")))

variable {W : Wd} {a : Ad}
theorem smk_of (T : Txt W.K W.mg a) : SmK W 4 a.Ratio "of" ["value"] (spOf a.Ratio) := Ly.smk_of T.d_Ratio_of sc_Ratio_of (fun _ _ _ _ _ _ us ws hl hw => match us, ws, hl, hw with | [], [_], _, _ => rfl) (fun vs H Q E ⟨v, t, b, h, _⟩ => by rw [h]; rfl) (sm_of' T)
theorem mk_RatioK (T : Txt W.K W.mg a) : MakK W 2 "Ratio" a.Ratio ["bottom", "top"] (spInit a.Ratio) := by
  obtain ⟨f, fd, F, M, ok⟩ := k_init T
  exact ⟨f, fd, _, M, ok, T.o_Ratio.mg, kbn_ofD (ps := ["self", "top", "bottom"]) F (by decide) (fun h1 h2 => h1.append h2.reverse) (fun T kV doc pm an cdv ct us ws its hl hw hi => match us, hl, ws, hw, its, hi with | [_], _, [_, _], _, [_], _ => ⟨_, rfl, rfl⟩)⟩
theorem scale_ok {x : V} (h : x ∈ [V.int 1, V.int 2, V.int 7, V.int (0 - 1), V.int (0 - 6)]) : ∃ s : Int, x = V.int s ∧ s ≠ 0 ∧ Sz 4 s := by
  simp only [List.mem_cons, List.mem_nil_iff, or_false] at h
  rcases h with rfl | rfl | rfl | rfl | rfl
  all_goals exact ⟨_, rfl, by decide, by unfold Sz; decide⟩
theorem k_law_made (T : Txt W.K W.mg a) : Cl W 10 "_law_made" (spMade a.Ratio) := by
  refine cl_of' T.d_law_made sc_law_made bd_law_made (fun vs H Q E ⟨p, x, t, b, h, _⟩ => by rw [h]; rfl) fun f cdv A outer s0 H vs Q E hr h => ?_
  obtain ⟨p, x, t, b, rfl, hp, fr, lo, z1, z2, q⟩ := h
  refine ⟨_, (pss_cons (ps_par (i := 2) (j := 3) (by rfl) sc_law_made.nd rfl rfl (by decide) rfl rfl (pa_cons (pe_cl (k_law_pick T) hr (by decide) rfl (pa_cons (pv 0) (pa_cons (pe_lst (pa_cons pe_int (pa_cons pe_int (pa_cons pe_int (pa_cons (pe_op op_subU pe_int pe_int) (pa_cons (pe_op op_subU pe_int pe_int) pa_nil)))))) pa_nil))) (pa_cons (pe_cl (k_law_draw T) hr (by decide) rfl (pa_cons (pv 0) (pa_cons pe_int pa_nil))) pa_nil)) (by rfl)) (pss_cons (ps_if (pt_cmpR (r := rEqU W.K) (op_eqU hr.units) (pv 3) pe_int (nomark _)) (pss_one (ps_ret (pe_sm (sm_read T) hr (by decide) (pe_gn (v := .ref a.Ratio) (by rfl) T.o_Ratio.mg rfl) (pa_cons (pe_cl (k_law_text T) hr (by decide) rfl (pa_cons (pv 1) pa_nil)) pa_nil)))) pss_nil) (pss_cons (ps_if (pt_cmpR (r := rEqU W.K) (op_eqU hr.units) (pv 3) pe_int (nomark _)) (pss_one (ps_ret (pe_smk (smk_of T) hr (by decide) (pe_gn (v := .ref a.Ratio) (by rfl) T.o_Ratio.mg rfl) (pk_cons (pe_mak (m_Ratio2 T) hr (by decide) rfl (pa_cons (pe_op op_mulU (pe_ix (r := rIx W.K) ix_U (pv 1) pe_int (fun _ _ => rfl)) (pv 2)) (pa_cons (pe_op op_mulU (pe_ix (r := rIx W.K) ix_U (pv 1) pe_int (fun _ _ => rfl)) (pv 2)) pa_nil))) pk_nil)))) pss_nil) (pss_cons (ps_if (pt_cmpR (r := rEqU W.K) (op_eqU hr.units) (pv 3) pe_int (nomark _)) (pss_one (ps_ret (pe_makK (mk_RatioK T) hr (by decide) (by rfl) (pk_cons (pe_op op_mulU (pe_ix (r := rIx W.K) ix_U (pv 1) pe_int (fun _ _ => rfl)) (pv 2)) (pk_cons (pe_op op_mulU (pe_ix (r := rIx W.K) ix_U (pv 1) pe_int (fun _ _ => rfl)) (pv 2)) pk_nil))))) pss_nil) (pss_cons (ps_if (PW.pt (pw_and (pt_cmpR (r := rEqU W.K) (op_eqU hr.units) (pv 3) pe_int (nomark _)) (pw_and1 (pt_cmpR (r := rEqU W.K) (op_eqU hr.units) (pe_ix (r := rIx W.K) ix_U (pv 1) pe_int (fun _ _ => rfl)) pe_int (nomark _))))) (pss_one (ps_ret (pe_mak (m_Ratio1 T) hr (by decide) rfl (pa_cons (pe_ix (r := rIx W.K) ix_U (pv 1) pe_int (fun _ _ => rfl)) pa_nil)))) pss_nil) (pss_one (ps_ret (pe_ifExp (PW.pt (pw_and (pt_cmpR (r := rEqU W.K) (op_eqU hr.units) (pv 3) pe_int (nomark _)) (pw_and1 (pt_cmpR (r := rEqU W.K) (op_eqU hr.units) (pe_ix (r := rIx W.K) ix_U (pv 1) pe_int (fun _ _ => rfl)) pe_int (nomark _))))) (pe_smk (smk_of T) hr (by decide) (pe_gn (v := .ref a.Ratio) (by rfl) T.o_Ratio.mg rfl) (pk_cons (pe_ix (r := rIx W.K) ix_U (pv 1) pe_int (fun _ _ => rfl)) pk_nil)) (pe_mak (m_Ratio2 T) hr (by decide) rfl (pa_cons (pe_op op_mulU (pe_ix (r := rIx W.K) ix_U (pv 1) pe_int (fun _ _ => rfl)) (pv 2)) (pa_cons (pe_op op_mulU (pe_ix (r := rIx W.K) ix_U (pv 1) pe_int (fun _ _ => rfl)) (pv 2)) pa_nil))))))))))), ?_⟩
  refine i_start (σ' := [some (V.ref p), some (V.ref x), none, none]) rfl ?_
  repeat walk_at "rd"
  refine i_mkL5 fun l H1 nl hl s1 => ?_
  repeat walk_at "rd"
  refine i_pick (hp.same s1) (fresh_ne hp nl) hl (by simp) (by show 5 ≤ 1000; decide) fun y H2 hy k2 => ?_
  obtain ⟨s, rfl, hs, zs⟩ := scale_ok hy
  repeat walk_at "rd"
  refine i_draw k2.pot' (by decide) (sz_lit (by decide)) fun d H3 d0 d1 k3 => ?_
  have kk : Dr p H H3 := ((Dr.of s1 hp).trans k2).trans k3
  have fr3 := fr.pk kk
  obtain ⟨e1, e2⟩ := lo.scale hs
  have n2 : b * s ≠ 0 := Int.mul_ne_zero (Int.ne_of_gt lo.pos) hs
  have y1 : Sz 8900 (t * s) := sz_mono (sz_mul z1 zs) (by decide)
  have y2 : Sz 8900 (b * s) := sz_mono (sz_mul z2 zs) (by decide)
  have c1 : CMulW t s := cmul_sz z1 zs
  have c2 : CMulW b s := cmul_sz z2 zs
  clear k2 k3 hy hl nl s1 fr
  have fin : ∀ r H', Same H3 H' → RatAt a.Ratio H' r t b → Q (.ref r) H' := fun r H' s r2 => q r H' (kk.same s) r2
  have mk : rMake a.Ratio (spInit a.Ratio) [] [.int (t * s), .int (b * s)] H3 Q := i_mk2 n2 y1 y2 fun r H4 _ s4 r4 => fin r H4 s4 (by rw [e1, e2] at r4; exact r4)
  repeat walk_at "rd"
  refine i_dec (fun h0 => ?_) (fun h0 => ?_)
  · repeat walk_at "rd"
    refine i_text fr3 (sz_mono z1 (by decide)) (sz_mono z2 (by decide)) ?_
    exact ⟨t, b, rfl, lo, sz_mono z1 (by decide), sz_mono z2 (by decide), fin⟩
  repeat walk_at "rd"
  refine i_dec (fun h1 => ?_) (fun h1 => ?_)
  · repeat walk_at "rd"
    · refine i_mk2 n2 y1 y2 fun r H4 _ s4 r4 => ?_
      rw [e1, e2] at r4
      repeat walk_at "rd"
      refine i_sk1 ?_
      exact i_of r4.num (sz_mono z1 (by decide)) fun r5 H5 s5 r5 => fin _ H5 (s4.trans s5) r5
    all_goals assumption
  repeat walk_at "rd"
  refine i_dec (fun h2 => ?_) (fun h2 => ?_)
  · repeat walk_at "rd"
    refine i_makeK ?_
    repeat walk_at "rd"
    · exact i_mkBT n2 y1 y2 fun r H4 _ s4 r4 => fin r H4 s4 (by rw [e1, e2] at r4; exact r4)
    all_goals assumption
  have one : b = 1 → rMake a.Ratio (spInit a.Ratio) [.int 1] [.int t] H3 Q := fun hb => i_mk1 (sz_mono z1 (by decide)) fun r H4 _ s4 r4 => fin r H4 s4 (by rw [hb]; exact r4)
  have ofi : b = 1 → spOf a.Ratio [.int t] H3 Q E0 := fun hb => i_of (num_int t) (sz_mono z1 (by decide)) fun r H4 s4 r4 => fin r H4 s4 (by rw [hb]; exact r4)
  repeat walk_at "rd"
  refine i_dec (fun h3 => ?_) (fun h3 => ?_)
  · repeat walk_at "rd"
    refine i_dec (fun hb => ?_) (fun hb => ?_)
    · repeat walk_at "rd"
      exact one (V.int.inj hb)
    · repeat walk_at "rd"
      refine i_dec (fun h4 => ?_) (fun h4 => ?_)
      · repeat walk_at "rd"
        refine i_dec (fun hb => ?_) (fun hb => ?_)
        · repeat walk_at "rd"
          exact i_sk1 (ofi (V.int.inj hb))
        · repeat walk_at "rd"
          all_goals assumption
      · repeat walk_at "rd"
        all_goals assumption
  · repeat walk_at "rd"
    refine i_dec (fun h4 => ?_) (fun h4 => ?_)
    · repeat walk_at "rd"
      refine i_dec (fun hb => ?_) (fun hb => ?_)
      · repeat walk_at "rd"
        exact i_sk1 (ofi (V.int.inj hb))
      · repeat walk_at "rd"
        all_goals assumption
    · repeat walk_at "rd"
      all_goals assumption
theorem k_law_side (T : Txt W.K W.mg a) : Cl W 11 "_law_side" (spSide a.Ratio) := by
  refine cl_of' T.d_law_side sc_law_side bd_law_side (fun vs H Q E ⟨p, x, t, b, h, _⟩ => by rw [h]; rfl) fun f cdv A outer s0 H vs Q E hr h => ?_
  obtain ⟨p, x, t, b, rfl, hp, fr, lo, z1, z2, q⟩ := h
  refine ⟨_, (pss_one (ps_ret (pe_ifExp (PW.pt (pw_and (pt_cmpR (r := rEqU W.K) (op_eqU hr.units) (pe_ix (r := rIx W.K) ix_U (pv 1) pe_int (fun _ _ => rfl)) pe_int (nomark _)) (pw_and1 (pt_cmpR op_gt (pe_cl (k_law_draw T) hr (by decide) rfl (pa_cons (pv 0) (pa_cons pe_int pa_nil))) pe_int (nomark _))))) (pe_ix (r := rIx W.K) ix_U (pv 1) pe_int (fun _ _ => rfl)) (pe_cl (k_law_made T) hr (by decide) rfl (pa_cons (pv 0) (pa_cons (pv 1) pa_nil)))))), ?_⟩
  refine i_start (σ' := [some (V.ref p), some (V.ref x)]) rfl ?_
  repeat walk_at "rd"
  refine i_dec (fun hb => ?_) (fun hb => ?_)
  · have eb : b = 1 := V.int.inj hb
    repeat walk_at "rd"
    refine i_draw hp (by decide) (sz_lit (by decide)) fun d H1 d0 d1 k1 => ?_
    have fr1 := fr.pk k1
    repeat walk_at "rd"
    refine i_dec (fun h0 => ?_) (fun h0 => ?_)
    · repeat walk_at "rd"
      exact q _ H1 k1 (.inl ⟨rfl, eb⟩)
    · repeat walk_at "rd"
      exact i_made k1.pot' fr1 lo z1 z2 fun r H2 k2 r2 => q _ H2 (k1.trans k2) r2.num
  · repeat walk_at "rd"
    exact i_made hp fr lo z1 z2 fun r H1 k r1 => q _ H1 k r1.num
end Lw

namespace Lw
open PySem PySem.Spec PyProof.Rows L2 Ly
local macro_rules | `(tactic| walk_at "rd") => `(tactic| first
  | ((with_reducible refine' i_var ?hv ?_); (case hv => exact rfl))
  | with_reducible refine i_c ?_
  | with_reducible refine i_op ?_
  | with_reducible refine i_cons ?_
  | with_reducible refine i_nil ?_
  | with_reducible refine i_cb ?_
  | with_reducible refine i_call ?_
  | with_reducible refine i_I0 ?_
  | with_reducible refine i_add_i ?_
  | with_reducible refine i_sub_i ?_
  | with_reducible refine i_md_i (by first | decide | assumption) ?_
  | ((with_reducible refine' i_md_i ?c ?_); rotate_left)
  | ((with_reducible refine' i_mul_i ?c ?_); rotate_left)
  | with_reducible refine i_fd_i (by decide) ?_
  | ((with_reducible refine' i_fd_i ?c ?_); rotate_left)
  | with_reducible refine i_int ?_
  | with_reducible refine i_abs ?_
  | with_reducible refine i_max2 ?_
  | with_reducible refine i_min2 ?_
  | with_reducible refine i_gcd ?_
  | with_reducible refine i_seq ?_
  | with_reducible refine i_if ?_
  | with_reducible refine i_asg ?_
  | with_reducible refine i_ret ?_
  | with_reducible refine i_drop ?_
  | with_reducible refine i_next ?_
  | with_reducible refine i_un ?_
  | with_reducible refine i_U ?_
  | ((with_reducible refine i_gname ?_); dsimp only [List.set])
  | with_reducible refine i_test ?_
  | with_reducible refine i_not ?_
  | with_reducible refine i_or ?_
  | with_reducible refine i_and ?_
  | with_reducible refine i_tb ?_
  | with_reducible refine i_andV ?_
  | with_reducible refine i_orV ?_
  | with_reducible refine i_notV ?_
  | with_reducible refine i_ifx ?_
  | with_reducible refine i_ext ?_
  | with_reducible refine i_exf ?_
  | with_reducible refine i_exn ?_
  | with_reducible refine i_itt ?_
  | with_reducible refine i_itf ?_
  | with_reducible refine i_gsub ?_
  | with_reducible refine i_nt ?_
  | with_reducible refine i_tup ?_
  | with_reducible refine i_lst ?_
  | with_reducible refine i_nf ?_
  | with_reducible refine i_isint ?_
  | ((with_reducible refine' i_top ?r ?_); (case r => walk_at "hp"))
  | ((with_reducible refine' i_bot ?r ?_); (case r => walk_at "hp"))
  | with_reducible refine i_fld ?_
  | with_reducible refine i_sfld ?_
  | with_reducible refine i_pp ?_
  | with_reducible refine i_meth ?_
  | with_reducible refine i_smeth ?_
  | with_reducible refine i_make ?_
  | with_reducible refine i_sl ?_
  | with_reducible refine i_noPart ?_
  | with_reducible refine i_part ?_
  | with_reducible refine i_smethK ?_
  | with_reducible refine i_sk1 ?_
  | with_reducible refine i_makeK ?_
  | with_reducible refine i_methK ?_
  | with_reducible refine i_mk11 ?_
  | ((with_reducible refine' i_rmk ?r ?h1 ?h2 ?_); (case r => walk_at "hp"); (case h1 => decide +kernel); (case h2 => decide +kernel))
  | with_reducible refine i_tpar ?_
  | ((with_reducible refine i_rpar ?_); dsimp only [List.set])
  | with_reducible refine i_eq_s rfl ?_
  | with_reducible refine i_ne_s rfl ?_
  | ((with_reducible refine' i_rtop ?r ?c ?n ?_); (case r => walk_at "hp"); (case c => assumption); (case n => assumption))
  | ((with_reducible refine' i_rbot ?r ?c ?n ?_); (case r => walk_at "hp"); (case c => assumption); (case n => assumption))
  | ((with_reducible refine' i_rpp ?r ?_); (case r => walk_at "hp"))
  | ((with_reducible refine' i_rmeth ?r ?h1 ?h2 ?_); (case r => walk_at "hp"); (case h1 => decide +kernel); (case h2 => decide +kernel))
  | ((with_reducible refine' i_ix_l ?hp ?ha ?_); (case hp => walk_at "hp"); (case ha => exact rfl))
  | ((with_reducible refine' i_len_l ?hp ?_); (case hp => walk_at "hp"))
  | ((with_reducible refine' i_ix_f0 ?hp ?_); (case hp => walk_at "hp"))
  | ((with_reducible refine' i_ix_f1 ?hp ?_); (case hp => walk_at "hp"))
  | ((with_reducible refine' i_ix_t ?hp ?ha ?_); (case hp => walk_at "hp"); (case ha => exact rfl)))
local macro_rules | `(tactic| walk_at "hp") => `(tactic| first
  | assumption
  | exact upd_same
  | exact SqL.of (by assumption)
  | (refine' Dr.tup (by assumption) ?hq; (case hq => walk_at "hp"))
  | (refine' FrL.same (by assumption) ?hq; (case hq => walk_at "hp"))
  | (refine' FracAt.same (by assumption) ?hq; (case hq => walk_at "hp"))
  | (refine' FracAt.nl (by assumption) ?hq; (case hq => walk_at "hp"))
  | (refine' RatAt.nl (by assumption) ?hq; (case hq => walk_at "hp"))
  | (refine' Num.nl (by assumption) ?hq; (case hq => walk_at "hp"))
  | (refine' FracAt.pk (by assumption) ?hq; (case hq => walk_at "hp"))
  | (refine' RatAt.pk (by assumption) ?hq; (case hq => walk_at "hp"))
  | (refine' Num.pk (by assumption) ?hq; (case hq => walk_at "hp"))
  | (refine' Dr.keep (by assumption) _ _ (by assumption) ?hq; (case hq => walk_at "hp"))
  | (refine' (show Same _ _ by assumption) _ _ ?hq; (case hq => walk_at "hp"))
  | (refine' RatAt.same (by assumption) ?hq; (case hq => walk_at "hp"))
  | (refine' Num.same (by assumption) ?hq; (case hq => walk_at "hp")))
local macro_rules | `(tactic| walk_at "sm") => `(tactic| first
  | assumption
  | exact Same.refl _
  | (refine' Same.kl (by assumption) (by assumption) ?aa; (case aa => walk_at "sm"))
  | (refine' Same.trans ?aa (by assumption); (case aa => walk_at "sm")))
local macro_rules | `(tactic| walk_at "dr") => `(tactic| first
  | assumption
  | (refine' Dr.same ?aa (by assumption); (case aa => walk_at "dr"))
  | (refine' Dr.trans ?aa (by assumption); (case aa => walk_at "dr")))

variable {W : Wd} {a : Ad}
/-- what the checkers are given -/
structure Giv (C : Addr) (H : Hp) (o m : V) (x y : Addr) (t b t2 b2 : Int) : Prop where
  one : ∃ c, o = .ref c ∧ RatAt C H c t b
  mate : Num C H m t2 b2
  f1 : FracAt H x t b
  f2 : FracAt H y t2 b2
  lo : Lo t b
  lo2 : Lo t2 b2
  z : Sz 1300 t
  zb : Sz 1300 b
  z2 : Sz 1300 t2
  zb2 : Sz 1300 b2
theorem Giv.ok {C : Addr} {H : Hp} {o m : V} {x y : Addr} {t b t2 b2 : Int} (g : Giv C H o m x y t b t2 b2) : Ok4 t b := ⟨g.lo, sz_mono g.z (by decide), sz_mono g.zb (by decide)⟩
theorem Giv.ok2 {C : Addr} {H : Hp} {o m : V} {x y : Addr} {t b t2 b2 : Int} (g : Giv C H o m x y t b t2 b2) : Ok4 t2 b2 := ⟨g.lo2, sz_mono g.z2 (by decide), sz_mono g.zb2 (by decide)⟩
theorem Giv.same {C : Addr} {H H' : Hp} {o m : V} {x y : Addr} {t b t2 b2 : Int} (s : Same H H') (g : Giv C H o m x y t b t2 b2) : Giv C H' o m x y t b t2 b2 := by
  obtain ⟨c, e, r⟩ := g.one
  exact ⟨⟨c, e, r.same s⟩, g.mate.same s, g.f1.same s, g.f2.same s, g.lo, g.lo2, g.z, g.zb, g.z2, g.zb2⟩
def spChk (C : Addr) : Sp := fun vs H Q _ => ∃ (o m : V) (x y : Addr) (t b t2 b2 : Int), vs = [o, m, .ref x, .ref y] ∧ Giv C H o m x y t b t2 b2 ∧ ∀ H', Same H H' → Q (.bl true) H'
theorem aN_comm (t b t2 b2 : Int) : aN t2 b2 t b = aN t b t2 b2 := Int.add_comm ..
theorem mN_comm (t b t2 b2 : Int) : mN t2 b2 t b = mN t b t2 b2 := Int.mul_comm ..
theorem dD_comm (t b t2 b2 : Int) : dD t2 b2 t b = dD t b t2 b2 := Int.mul_comm ..
theorem i_cat4 {H : Hp} {Q : VK} {p s : Addr} {v w v' w' : V} (h : H p = some (.lst [v, w])) (h' : H s = some (.lst [v', w'])) (q : ∀ t H', H t = none → H' t = some (.lst [v, w, v', w']) → Same H H' → Q (.ref t) H') : rAddU (.ref p) (.ref s) H Q := i_catL h h' (by show 4 ≤ 1000; decide) q
theorem i_cat42 {H : Hp} {Q : VK} {p s : Addr} {v w v' w' v2 w2 : V} (h : H p = some (.lst [v, w, v', w'])) (h' : H s = some (.lst [v2, w2])) (q : ∀ t H', H t = none → H' t = some (.lst [v, w, v', w', v2, w2]) → Same H H' → Q (.ref t) H') : rAddU (.ref p) (.ref s) H Q := i_catL h h' (by show 6 ≤ 1000; decide) q
theorem i_rep2 {H : Hp} {Q : VK} {p : Addr} {v : V} (h : H p = some (.lst [v])) (q : ∀ t H', H t = none → H' t = some (.lst [v, v]) → Same H H' → Q (.ref t) H') : rMulU (.ref p) (.int 2) H Q := i_repL h (by decide) (by decide) (by show 2 ≤ 1000; decide) q
theorem k_law_sums_right (T : Txt W.K W.mg a) : Cl W 8 "_law_sums_right" (spChk a.Ratio) := by
  refine cl_of' T.d_law_sums_right sc_law_sums_right bd_law_sums_right (fun vs H Q E ⟨o, m, x, y, t, b, t2, b2, h, _⟩ => by rw [h]; rfl) fun f cdv A outer s0 H vs Q E hr h => ?_
  obtain ⟨o, m, x, y, t, b, t2, b2, rfl, g, q⟩ := h
  have o1 := g.ok
  have o2 := g.ok2
  obtain ⟨⟨c, rfl, r⟩, n, f1, f2, _, _, _, _, _, _⟩ := g
  refine ⟨_, (pss_cons (ps_set (i := 4) sc_law_sums_right.nd rfl (Or.inl rfl) (pe_lst (pa_cons (pe_op (op_addN (mt_add T) (mt_radd T) T.o_Ratio hr (by decide) (by decide)) (pv 0) (pv 1)) (pa_cons (pe_op (op_addN (mt_add T) (mt_radd T) T.o_Ratio hr (by decide) (by decide)) (pv 1) (pv 0)) (pa_cons (pe_op (op_subN (mt_sub T) (mt_rsub T) T.o_Ratio hr (by decide) (by decide)) (pv 0) (pv 1)) (pa_cons (pe_op (op_subN (mt_sub T) (mt_rsub T) T.o_Ratio hr (by decide) (by decide)) (pv 1) (pv 0)) (pa_cons (pe_op (op_mulN (mt_mul T) (mt_rmul T) T.o_Ratio hr (by decide) (by decide)) (pv 0) (pv 1)) (pa_cons (pe_op (op_mulN (mt_mul T) (mt_rmul T) T.o_Ratio hr (by decide) (by decide)) (pv 1) (pv 0)) pa_nil)))))))) (pss_cons (ps_set (i := 5) sc_law_sums_right.nd rfl (Or.inl rfl) (pe_op op_addU (pe_op op_mulU (pe_lst (pa_cons (pe_cl (k_law_plus T) hr (by decide) rfl (pa_cons (pv 2) (pa_cons (pv 3) pa_nil))) pa_nil)) pe_int) (pe_lst (pa_cons (pe_cl (k_law_less T) hr (by decide) rfl (pa_cons (pv 2) (pa_cons (pv 3) pa_nil))) (pa_cons (pe_cl (k_law_less T) hr (by decide) rfl (pa_cons (pv 3) (pa_cons (pv 2) pa_nil))) pa_nil))))) (pss_one (ps_ret (pe_cmpR (r := rEqU W.K) (op_eqU hr.units) (pe_cl (k_law_told T) hr (by decide) rfl (pa_cons (pv 4) pa_nil)) (pe_op op_addU (pv 5) (pe_op op_mulU (pe_lst (pa_cons (pe_cl (k_law_times T) hr (by decide) rfl (pa_cons (pv 2) (pa_cons (pv 3) pa_nil))) pa_nil)) pe_int)) (nomark _)))))), ?_⟩
  refine i_start (σ' := [some (V.ref c), some m, some (V.ref x), some (V.ref y), none, none]) rfl ?_
  repeat walk_at "rd"
  refine i_num r.num n o1 o2 (.inl ⟨c, rfl⟩) fun r1 H1 _ s1 q1 => ?_
  repeat walk_at "rd"
  refine i_num (by walk_at "hp") (RatAt.num (by walk_at "hp")) o2 o1 (.inr ⟨c, rfl⟩) fun r2 H2 _ s2 q2 => ?_
  repeat walk_at "rd"
  refine i_num (RatAt.num (by walk_at "hp")) (by walk_at "hp") o1 o2 (.inl ⟨c, rfl⟩) fun r3 H3 _ s3 q3 => ?_
  repeat walk_at "rd"
  refine i_num (by walk_at "hp") (RatAt.num (by walk_at "hp")) o2 o1 (.inr ⟨c, rfl⟩) fun r4 H4 _ s4 q4 => ?_
  repeat walk_at "rd"
  refine i_num (RatAt.num (by walk_at "hp")) (by walk_at "hp") o1 o2 (.inl ⟨c, rfl⟩) fun r5 H5 _ s5 q5 => ?_
  repeat walk_at "rd"
  refine i_num (by walk_at "hp") (RatAt.num (by walk_at "hp")) o2 o1 (.inr ⟨c, rfl⟩) fun r6 H6 _ s6 q6 => ?_
  repeat walk_at "rd"
  refine i_mkL6 fun l1 H7 _ hl1 s7 => ?_
  repeat walk_at "rd"
  rw [aN_comm, dD_comm t b] at q2
  rw [mN_comm, dD_comm t b] at q6
  refine i_f2 (by walk_at "hp") (by walk_at "hp") o1 o2 trivial fun u1 H8 _ s8 g1 => ?_
  repeat walk_at "rd"
  refine i_mkL1 fun l2 H9 _ hl2 s9 => ?_
  repeat walk_at "rd"
  refine i_rep2 hl2 fun l3 H10 _ hl3 s10 => ?_
  repeat walk_at "rd"
  refine i_f2 (by walk_at "hp") (by walk_at "hp") o1 o2 trivial fun u3 H11 _ s11 g3 => ?_
  repeat walk_at "rd"
  refine i_f2 (by walk_at "hp") (by walk_at "hp") o2 o1 trivial fun u4 H12 _ s12 g4 => ?_
  repeat walk_at "rd"
  refine i_mkL2 fun l4 H13 _ hl4 s13 => ?_
  repeat walk_at "rd"
  refine i_cat4 (by walk_at "hp") hl4 fun l5 H14 _ hl5 s14 => ?_
  repeat walk_at "rd"
  refine i_told6 (by walk_at "hp") (by walk_at "hp") (by walk_at "hp") (by walk_at "hp") (by walk_at "hp") (by walk_at "hp") (by walk_at "hp") fun l6 H15 _ s15 hl6 => ?_
  repeat walk_at "rd"
  refine i_f2 (by walk_at "hp") (by walk_at "hp") o1 o2 trivial fun u5 H16 _ s16 g5 => ?_
  repeat walk_at "rd"
  refine i_mkL1 fun l7 H17 _ hl7 s17 => ?_
  repeat walk_at "rd"
  refine i_rep2 hl7 fun l8 H18 _ hl8 s18 => ?_
  repeat walk_at "rd"
  refine i_cat42 (by walk_at "hp") hl8 fun l9 H19 _ hl9 s19 => ?_
  repeat walk_at "rd"
  exact i_eqFr (by walk_at "hp") (frl6 hl9 (by walk_at "hp") (by walk_at "hp") (by walk_at "hp") (by walk_at "hp") (by walk_at "hp") (by walk_at "hp")) (q _ (by walk_at "sm"))
end Lw

namespace Lw
open PySem PySem.Spec PyProof.Rows L2 Ly
local macro_rules | `(tactic| walk_at "rd") => `(tactic| first
  | ((with_reducible refine' i_var ?hv ?_); (case hv => exact rfl))
  | with_reducible refine i_c ?_
  | with_reducible refine i_op ?_
  | with_reducible refine i_cons ?_
  | with_reducible refine i_nil ?_
  | with_reducible refine i_cb ?_
  | with_reducible refine i_call ?_
  | with_reducible refine i_I0 ?_
  | with_reducible refine i_add_i ?_
  | with_reducible refine i_sub_i ?_
  | with_reducible refine i_md_i (by first | decide | assumption) ?_
  | ((with_reducible refine' i_md_i ?c ?_); rotate_left)
  | ((with_reducible refine' i_mul_i ?c ?_); rotate_left)
  | with_reducible refine i_fd_i (by decide) ?_
  | ((with_reducible refine' i_fd_i ?c ?_); rotate_left)
  | with_reducible refine i_int ?_
  | with_reducible refine i_abs ?_
  | with_reducible refine i_max2 ?_
  | with_reducible refine i_min2 ?_
  | with_reducible refine i_gcd ?_
  | with_reducible refine i_seq ?_
  | with_reducible refine i_if ?_
  | with_reducible refine i_asg ?_
  | with_reducible refine i_ret ?_
  | with_reducible refine i_drop ?_
  | with_reducible refine i_next ?_
  | with_reducible refine i_un ?_
  | with_reducible refine i_U ?_
  | ((with_reducible refine i_gname ?_); dsimp only [List.set])
  | with_reducible refine i_test ?_
  | with_reducible refine i_not ?_
  | with_reducible refine i_or ?_
  | with_reducible refine i_and ?_
  | with_reducible refine i_tb ?_
  | with_reducible refine i_andV ?_
  | with_reducible refine i_orV ?_
  | with_reducible refine i_notV ?_
  | with_reducible refine i_ifx ?_
  | with_reducible refine i_ext ?_
  | with_reducible refine i_exf ?_
  | with_reducible refine i_exn ?_
  | with_reducible refine i_itt ?_
  | with_reducible refine i_itf ?_
  | with_reducible refine i_gsub ?_
  | with_reducible refine i_nt ?_
  | with_reducible refine i_tup ?_
  | with_reducible refine i_lst ?_
  | with_reducible refine i_nf ?_
  | with_reducible refine i_isint ?_
  | ((with_reducible refine' i_top ?r ?_); (case r => walk_at "hp"))
  | ((with_reducible refine' i_bot ?r ?_); (case r => walk_at "hp"))
  | with_reducible refine i_fld ?_
  | with_reducible refine i_sfld ?_
  | with_reducible refine i_pp ?_
  | with_reducible refine i_meth ?_
  | with_reducible refine i_smeth ?_
  | with_reducible refine i_make ?_
  | with_reducible refine i_sl ?_
  | with_reducible refine i_noPart ?_
  | with_reducible refine i_part ?_
  | with_reducible refine i_smethK ?_
  | with_reducible refine i_sk1 ?_
  | with_reducible refine i_makeK ?_
  | with_reducible refine i_methK ?_
  | with_reducible refine i_mk11 ?_
  | ((with_reducible refine' i_rmk ?r ?h1 ?h2 ?_); (case r => walk_at "hp"); (case h1 => decide +kernel); (case h2 => decide +kernel))
  | with_reducible refine i_tpar ?_
  | ((with_reducible refine i_rpar ?_); dsimp only [List.set])
  | with_reducible refine i_eq_s rfl ?_
  | with_reducible refine i_ne_s rfl ?_
  | ((with_reducible refine' i_rtop ?r ?c ?n ?_); (case r => walk_at "hp"); (case c => assumption); (case n => assumption))
  | ((with_reducible refine' i_rbot ?r ?c ?n ?_); (case r => walk_at "hp"); (case c => assumption); (case n => assumption))
  | ((with_reducible refine' i_rpp ?r ?_); (case r => walk_at "hp"))
  | ((with_reducible refine' i_rmeth ?r ?h1 ?h2 ?_); (case r => walk_at "hp"); (case h1 => decide +kernel); (case h2 => decide +kernel))
  | ((with_reducible refine' i_ix_l ?hp ?ha ?_); (case hp => walk_at "hp"); (case ha => exact rfl))
  | ((with_reducible refine' i_len_l ?hp ?_); (case hp => walk_at "hp"))
  | ((with_reducible refine' i_ix_f0 ?hp ?_); (case hp => walk_at "hp"))
  | ((with_reducible refine' i_ix_f1 ?hp ?_); (case hp => walk_at "hp"))
  | ((with_reducible refine' i_ix_t ?hp ?ha ?_); (case hp => walk_at "hp"); (case ha => exact rfl)))
local macro_rules | `(tactic| walk_at "hp") => `(tactic| first
  | assumption
  | exact upd_same
  | exact SqL.of (by assumption)
  | (refine' Dr.tup (by assumption) ?hq; (case hq => walk_at "hp"))
  | (refine' FrL.same (by assumption) ?hq; (case hq => walk_at "hp"))
  | (refine' FracAt.same (by assumption) ?hq; (case hq => walk_at "hp"))
  | (refine' FracAt.nl (by assumption) ?hq; (case hq => walk_at "hp"))
  | (refine' RatAt.nl (by assumption) ?hq; (case hq => walk_at "hp"))
  | (refine' Num.nl (by assumption) ?hq; (case hq => walk_at "hp"))
  | (refine' FracAt.pk (by assumption) ?hq; (case hq => walk_at "hp"))
  | (refine' RatAt.pk (by assumption) ?hq; (case hq => walk_at "hp"))
  | (refine' Num.pk (by assumption) ?hq; (case hq => walk_at "hp"))
  | (refine' Dr.keep (by assumption) _ _ (by assumption) ?hq; (case hq => walk_at "hp"))
  | (refine' (show Same _ _ by assumption) _ _ ?hq; (case hq => walk_at "hp"))
  | (refine' RatAt.same (by assumption) ?hq; (case hq => walk_at "hp"))
  | (refine' Num.same (by assumption) ?hq; (case hq => walk_at "hp")))
local macro_rules | `(tactic| walk_at "sm") => `(tactic| first
  | assumption
  | exact Same.refl _
  | (refine' Same.kl (by assumption) (by assumption) ?aa; (case aa => walk_at "sm"))
  | (refine' Same.trans ?aa (by assumption); (case aa => walk_at "sm")))
local macro_rules | `(tactic| walk_at "dr") => `(tactic| first
  | assumption
  | (refine' Dr.same ?aa (by assumption); (case aa => walk_at "dr"))
  | (refine' Dr.trans ?aa (by assumption); (case aa => walk_at "dr")))

variable {W : Wd} {a : Ad}
theorem i_ints2 {H : Hp} {Q : VK} {E : XK} {l : Addr} {i j : Int} (h : H l = some (.lst [.int i, .int j])) (q : ∀ H', Same H H' → Q (.bl true) H') : spInts [.ref l] H Q E := i_ints (ns := [i, j]) h (by show 2 ≤ 1000; decide) q
theorem i_neIn2 {K : PySem.W.Frag} {H : Hp} {Q : VK} {r r' : Addr} {i j : Int} (h1 : H r = some (.lst [.int i, .int j])) (h2 : H r' = some (.lst [.int i, .int j])) (q : Q (.bl false) H) : rNeU K (.ref r) (.ref r') H Q := i_neIn (ns := [i, j]) h1 h2 q
theorem k_law_quotients_right (T : Txt W.K W.mg a) : Cl W 15 "_law_quotients_right" (spChk a.Ratio) := by
  refine cl_of' T.d_law_quotients_right sc_law_quotients_right bd_law_quotients_right (fun vs H Q E ⟨o, m, x, y, t, b, t2, b2, h, _⟩ => by rw [h]; rfl) fun f cdv A outer s0 H vs Q E hr h => ?_
  obtain ⟨o, m, x, y, t, b, t2, b2, rfl, g, q⟩ := h
  have o1 := g.ok
  have o2 := g.ok2
  obtain ⟨⟨c, rfl, r⟩, n, f1, f2, lo, lo2, z, zb, z2, zb2⟩ := g
  refine ⟨_, (Evl.pss_cut (ps_if (pt_cmpR (r := rNeU W.K) (op_neU hr.units) (pe_ix (r := rIx W.K) ix_U (pv 3) pe_int (fun _ _ => rfl)) pe_int (nomark _)) (pss_cons (ps_set (i := 4) sc_law_quotients_right.nd rfl (Or.inl rfl) (pe_lst (pa_cons (pe_op (op_fdN (mt_floordiv T) (mt_rfloordiv T) T.o_Ratio hr (by decide) (by decide)) (pv 0) (pv 1)) (pa_cons (pe_mt0 T.o_Ratio.cls (mt_floor T) hr (by decide) (pe_mtk T.o_Ratio.cls (mtk_over T) hr (by decide) (pv 0) (pk_cons (pv 1) pk_nil))) pa_nil)))) (pss_cons (ps_if (PW.pt (pw_or (pt_cmpR (r := rNeU W.K) (op_neU hr.units) (pv 4) (pe_op op_mulU (pe_lst (pa_cons (pe_cl (k_law_floor T) hr (by decide) rfl (pa_cons (pv 2) (pa_cons (pv 3) pa_nil))) pa_nil)) pe_int) (nomark _)) (pw_or1 (pt_not (pt_val (pe_cl (k_law_are_integers T) hr (by decide) rfl (pa_cons (pv 4) pa_nil))))))) (pss_one (ps_ret pe_bl)) pss_nil) (pss_cons (ps_set (i := 5) sc_law_quotients_right.nd rfl (Or.inl rfl) (pe_cl (k_law_frac T) hr (by decide) rfl (pa_cons (pe_op op_mulU (pe_ix (r := rIx W.K) ix_U (pv 2) pe_int (fun _ _ => rfl)) (pe_ix (r := rIx W.K) ix_U (pv 3) pe_int (fun _ _ => rfl))) (pa_cons (pe_op op_mulU (pe_ix (r := rIx W.K) ix_U (pv 2) pe_int (fun _ _ => rfl)) (pe_ix (r := rIx W.K) ix_U (pv 3) pe_int (fun _ _ => rfl))) pa_nil)))) (pss_one (ps_if (pt_cmpR (r := rNeU W.K) (op_neU hr.units) (pe_cl (k_law_told T) hr (by decide) rfl (pa_cons (pe_lst (pa_cons (pe_op (op_mdN (mt_mod T) (mt_rmod T) T.o_Ratio hr (by decide) (by decide)) (pv 0) (pv 1)) (pa_cons (pe_mt T.o_Ratio.cls (mt_over T) hr (by decide) (pv 0) (pa_cons (pv 1) pa_nil)) pa_nil))) pa_nil)) (pe_lst (pa_cons (pe_cl (k_law_rest T) hr (by decide) rfl (pa_cons (pv 2) (pa_cons (pv 3) pa_nil))) (pa_cons (pv 5) pa_nil))) (nomark _)) (pss_one (ps_ret pe_bl)) pss_nil))))) pss_nil) (pss_cons (ps_if (pt_cmpR (r := rEqU W.K) (op_eqU hr.units) (pe_ix (r := rIx W.K) ix_U (pv 2) pe_int (fun _ _ => rfl)) pe_int (nomark _)) (pss_one (ps_ret pe_bl)) pss_nil) (pss_one (ps_ret (pe_and (pe_cmpR (r := rEqU W.K) (op_eqU hr.units) (pe_op (op_fdN (mt_floordiv T) (mt_rfloordiv T) T.o_Ratio hr (by decide) (by decide)) (pv 1) (pv 0)) (pe_cl (k_law_floor T) hr (by decide) rfl (pa_cons (pv 3) (pa_cons (pv 2) pa_nil))) (nomark _)) (pe_one (pe_cmpR (r := rEqU W.K) (op_eqU hr.units) (pe_cl (k_law_told T) hr (by decide) rfl (pa_cons (pe_lst (pa_cons (pe_op (op_mdN (mt_mod T) (mt_rmod T) T.o_Ratio hr (by decide) (by decide)) (pv 1) (pv 0)) pa_nil)) pa_nil)) (pe_lst (pa_cons (pe_cl (k_law_rest T) hr (by decide) rfl (pa_cons (pv 3) (pa_cons (pv 2) pa_nil))) pa_nil)) (nomark _)))))))), ?_⟩
  refine i_start (σ' := [some (V.ref c), some m, some (V.ref x), some (V.ref y), none, none]) rfl ?_
  refine ⟨fun σ' H' => ∃ v4 v5 : Option V, σ' = [some (V.ref c), some m, some (V.ref x), some (V.ref y), v4, v5] ∧ Same H H', ?_, ?_⟩
  · repeat walk_at "rd"
    refine i_ndec (fun h0 => ?_) (fun h0 => ?_)
    · repeat walk_at "rd"
      exact ⟨_, _, rfl, Same.refl _⟩
    · have h1 : t2 ≠ 0 := fun e => h0 (by rw [e])
      have zf : Sz 8900 (t * b2) := sz_mono (sz_mul z zb2) (by decide)
      have hD : oD t b t2 b2 ≠ 0 := Int.mul_ne_zero (Int.ne_of_gt lo.pos) h1
      repeat walk_at "rd"
      refine i_numG r.num n o1 o2 (.inl ⟨c, rfl⟩) h1 fun H1 s1 => ?_
      repeat walk_at "rd"
      refine i_mk11 ?_
      refine i_over (by walk_at "hp") o1 (by walk_at "hp") o2 h1 fun r2 H2 _ s2 q2 => ?_
      repeat walk_at "rd"
      refine i_int1 q2 (lo_nu hD).pos (sz_de hD (sz_mono (sz_mul zb z2) (by decide))) ?_
      repeat walk_at "rd"
      refine i_mkL2 fun l1 H3 _ hl1 s3 => ?_
      repeat walk_at "rd"
      refine ⟨x, y, t, b, t2, b2, rfl, by walk_at "hp", by walk_at "hp", o1, o2, h1, ?_⟩
      repeat walk_at "rd"
      refine i_mkL1 fun l2 H4 _ hl2 s4 => ?_
      repeat walk_at "rd"
      refine i_rep2 hl2 fun l3 H5 _ hl3 s5 => ?_
      repeat walk_at "rd"
      refine i_neIn2 (by walk_at "hp") hl3 ?_
      repeat walk_at "rd"
      refine i_ints2 (by walk_at "hp") fun H6 s6 => ?_
      repeat walk_at "rd"
      · refine i_frac hD zf (sz_mono (sz_mul zb z2) (by decide)) fun u1 H7 _ s7 g7 => ?_
        repeat walk_at "rd"
        refine i_numG (RatAt.num (by walk_at "hp")) (by walk_at "hp") o1 o2 (.inl ⟨c, rfl⟩) ⟨h1, z, zb, z2, zb2⟩ fun r8 H8 _ s8 q8 => ?_
        repeat walk_at "rd"
        refine i_over (by walk_at "hp") o1 (by walk_at "hp") o2 h1 fun r9 H9 _ s9 q9 => ?_
        repeat walk_at "rd"
        refine i_mkL2 fun l4 H10 _ hl4 s10 => ?_
        repeat walk_at "rd"
        refine i_told2 hl4 (by walk_at "hp") (by walk_at "hp") fun l5 H11 _ s11 hl5 => ?_
        repeat walk_at "rd"
        refine i_f2 (by walk_at "hp") (by walk_at "hp") o1 o2 ⟨h1, z, zb, z2, zb2⟩ fun u2 H12 _ s12 g12 => ?_
        repeat walk_at "rd"
        refine i_mkL2 fun l6 H13 _ hl6 s13 => ?_
        repeat walk_at "rd"
        refine i_neFr (by walk_at "hp") (frl2 hl6 (by walk_at "hp") (by walk_at "hp")) ?_
        repeat walk_at "rd"
        exact ⟨_, _, rfl, by walk_at "sm"⟩
      all_goals first
        | exact cmul_sz z zb2
        | exact cmul_sz zb z2
  · rintro σ' H0 ⟨v4, v5, rfl, s0⟩
    repeat walk_at "rd"
    refine i_dec (fun h0 => ?_) (fun h0 => ?_)
    · repeat walk_at "rd"
      exact q _ s0
    · have h1 : t ≠ 0 := fun e => h0 (by rw [e])
      repeat walk_at "rd"
      refine i_numG (by walk_at "hp") (RatAt.num (by walk_at "hp")) o2 o1 (.inr ⟨c, rfl⟩) h1 fun H1 s1 => ?_
      repeat walk_at "rd"
      refine ⟨y, x, t2, b2, t, b, rfl, by walk_at "hp", by walk_at "hp", o2, o1, h1, ?_⟩
      refine i_eq_s rfl ?_
      rw [decide_eq_true rfl]
      repeat walk_at "rd"
      refine i_numG (by walk_at "hp") (RatAt.num (by walk_at "hp")) o2 o1 (.inr ⟨c, rfl⟩) ⟨h1, z2, zb2, z, zb⟩ fun r2 H2 _ s2 q2 => ?_
      repeat walk_at "rd"
      refine i_mkL1 fun l4 H10 _ hl4 s10 => ?_
      repeat walk_at "rd"
      refine i_told1 hl4 (by walk_at "hp") fun l5 H11 _ s11 hl5 => ?_
      repeat walk_at "rd"
      refine i_f2 (by walk_at "hp") (by walk_at "hp") o2 o1 ⟨h1, z2, zb2, z, zb⟩ fun u2 H12 _ s12 g12 => ?_
      repeat walk_at "rd"
      refine i_mkL1 fun l6 H13 _ hl6 s13 => ?_
      repeat walk_at "rd"
      exact i_eqFr (by walk_at "hp") (frl1 hl6 (by walk_at "hp")) (q _ (by walk_at "sm"))
end Lw

namespace Lw
open PySem PySem.Spec PyProof.Rows L2 Ly
local macro_rules | `(tactic| walk_at "rd") => `(tactic| first
  | ((with_reducible refine' i_var ?hv ?_); (case hv => exact rfl))
  | with_reducible refine i_c ?_
  | with_reducible refine i_op ?_
  | with_reducible refine i_cons ?_
  | with_reducible refine i_nil ?_
  | with_reducible refine i_cb ?_
  | with_reducible refine i_call ?_
  | with_reducible refine i_I0 ?_
  | with_reducible refine i_add_i ?_
  | with_reducible refine i_sub_i ?_
  | with_reducible refine i_md_i (by first | decide | assumption) ?_
  | ((with_reducible refine' i_md_i ?c ?_); rotate_left)
  | ((with_reducible refine' i_mul_i ?c ?_); rotate_left)
  | with_reducible refine i_fd_i (by decide) ?_
  | ((with_reducible refine' i_fd_i ?c ?_); rotate_left)
  | with_reducible refine i_int ?_
  | with_reducible refine i_abs ?_
  | with_reducible refine i_max2 ?_
  | with_reducible refine i_min2 ?_
  | with_reducible refine i_gcd ?_
  | with_reducible refine i_seq ?_
  | with_reducible refine i_if ?_
  | with_reducible refine i_asg ?_
  | with_reducible refine i_ret ?_
  | with_reducible refine i_drop ?_
  | with_reducible refine i_next ?_
  | with_reducible refine i_un ?_
  | with_reducible refine i_U ?_
  | ((with_reducible refine i_gname ?_); dsimp only [List.set])
  | with_reducible refine i_test ?_
  | with_reducible refine i_not ?_
  | with_reducible refine i_or ?_
  | with_reducible refine i_and ?_
  | with_reducible refine i_tb ?_
  | with_reducible refine i_andV ?_
  | with_reducible refine i_orV ?_
  | with_reducible refine i_notV ?_
  | with_reducible refine i_ifx ?_
  | with_reducible refine i_ext ?_
  | with_reducible refine i_exf ?_
  | with_reducible refine i_exn ?_
  | with_reducible refine i_itt ?_
  | with_reducible refine i_itf ?_
  | with_reducible refine i_gsub ?_
  | with_reducible refine i_nt ?_
  | with_reducible refine i_tup ?_
  | with_reducible refine i_lst ?_
  | with_reducible refine i_nf ?_
  | with_reducible refine i_isint ?_
  | ((with_reducible refine' i_top ?r ?_); (case r => walk_at "hp"))
  | ((with_reducible refine' i_bot ?r ?_); (case r => walk_at "hp"))
  | with_reducible refine i_fld ?_
  | with_reducible refine i_sfld ?_
  | with_reducible refine i_pp ?_
  | with_reducible refine i_meth ?_
  | with_reducible refine i_smeth ?_
  | with_reducible refine i_make ?_
  | with_reducible refine i_sl ?_
  | with_reducible refine i_noPart ?_
  | with_reducible refine i_part ?_
  | with_reducible refine i_smethK ?_
  | with_reducible refine i_sk1 ?_
  | with_reducible refine i_makeK ?_
  | with_reducible refine i_methK ?_
  | with_reducible refine i_mk11 ?_
  | ((with_reducible refine' i_rmk ?r ?h1 ?h2 ?_); (case r => walk_at "hp"); (case h1 => decide +kernel); (case h2 => decide +kernel))
  | with_reducible refine i_tpar ?_
  | ((with_reducible refine i_rpar ?_); dsimp only [List.set])
  | with_reducible refine i_eq_s rfl ?_
  | with_reducible refine i_ne_s rfl ?_
  | ((with_reducible refine' i_rtop ?r ?c ?n ?_); (case r => walk_at "hp"); (case c => assumption); (case n => assumption))
  | ((with_reducible refine' i_rbot ?r ?c ?n ?_); (case r => walk_at "hp"); (case c => assumption); (case n => assumption))
  | ((with_reducible refine' i_rpp ?r ?_); (case r => walk_at "hp"))
  | ((with_reducible refine' i_rmeth ?r ?h1 ?h2 ?_); (case r => walk_at "hp"); (case h1 => decide +kernel); (case h2 => decide +kernel))
  | ((with_reducible refine' i_ix_l ?hp ?ha ?_); (case hp => walk_at "hp"); (case ha => exact rfl))
  | ((with_reducible refine' i_len_l ?hp ?_); (case hp => walk_at "hp"))
  | ((with_reducible refine' i_ix_f0 ?hp ?_); (case hp => walk_at "hp"))
  | ((with_reducible refine' i_ix_f1 ?hp ?_); (case hp => walk_at "hp"))
  | ((with_reducible refine' i_ix_t ?hp ?ha ?_); (case hp => walk_at "hp"); (case ha => exact rfl)))
local macro_rules | `(tactic| walk_at "hp") => `(tactic| first
  | assumption
  | exact upd_same
  | exact SqL.of (by assumption)
  | (refine' Dr.tup (by assumption) ?hq; (case hq => walk_at "hp"))
  | (refine' FrL.same (by assumption) ?hq; (case hq => walk_at "hp"))
  | (refine' FracAt.same (by assumption) ?hq; (case hq => walk_at "hp"))
  | (refine' FracAt.nl (by assumption) ?hq; (case hq => walk_at "hp"))
  | (refine' RatAt.nl (by assumption) ?hq; (case hq => walk_at "hp"))
  | (refine' Num.nl (by assumption) ?hq; (case hq => walk_at "hp"))
  | (refine' FracAt.pk (by assumption) ?hq; (case hq => walk_at "hp"))
  | (refine' RatAt.pk (by assumption) ?hq; (case hq => walk_at "hp"))
  | (refine' Num.pk (by assumption) ?hq; (case hq => walk_at "hp"))
  | (refine' Dr.keep (by assumption) _ _ (by assumption) ?hq; (case hq => walk_at "hp"))
  | (refine' (show Same _ _ by assumption) _ _ ?hq; (case hq => walk_at "hp"))
  | (refine' RatAt.same (by assumption) ?hq; (case hq => walk_at "hp"))
  | (refine' Num.same (by assumption) ?hq; (case hq => walk_at "hp")))
local macro_rules | `(tactic| walk_at "sm") => `(tactic| first
  | assumption
  | exact Same.refl _
  | (refine' Same.kl (by assumption) (by assumption) ?aa; (case aa => walk_at "sm"))
  | (refine' Same.trans ?aa (by assumption); (case aa => walk_at "sm")))
local macro_rules | `(tactic| walk_at "dr") => `(tactic| first
  | assumption
  | (refine' Dr.same ?aa (by assumption); (case aa => walk_at "dr"))
  | (refine' Dr.trans ?aa (by assumption); (case aa => walk_at "dr")))

variable {W : Wd} {a : Ad}
theorem _root_.Ly.Lo.neg {t b : Int} (l : Lo t b) : Lo (-t) b := ⟨l.pos, by rw [Int.neg_gcd]; exact l.one⟩
theorem _root_.Ly.Lo.absI {t b : Int} (l : Lo t b) : Lo (if t < 0 then -t else t) b := by
  split
  · exact l.neg
  · exact l
theorem i_neTx2 {K : PySem.W.Frag} {H : Hp} {Q : VK} {r r' : Addr} {t b : Int} (h1 : H r = some (.lst [.str (Rt t b), .str (Rp t b)])) (h2 : H r' = some (.lst [.str (Rt t b), .str (Rp t b)])) (q : Q (.bl false) H) : rNeU K (.ref r) (.ref r') H Q := i_neTx (ok_Rt t b) (ok_Rp t b) h1 h2 q
theorem i_ints4 {H : Hp} {Q : VK} {E : XK} {l : Addr} {i j k n : Int} (h : H l = some (.lst [.int i, .int j, .int k, .int n])) (q : ∀ H', Same H H' → Q (.bl true) H') : spInts [.ref l] H Q E := i_ints (ns := [i, j, k, n]) h (by show 4 ≤ 1000; decide) q
theorem i_eqIn4 {K : PySem.W.Frag} {H : Hp} {Q : VK} {r r' : Addr} {i j k n : Int} (h1 : H r = some (.lst [.int i, .int j, .int k, .int n])) (h2 : H r' = some (.lst [.int i, .int j, .int k, .int n])) (q : Q (.bl true) H) : rEqU K (.ref r) (.ref r') H Q := i_eqIn (ns := [i, j, k, n]) h1 h2 q
theorem cdivw_sz {n : Nat} {x y : Int} (h : 0 < y) (k : Sz n y) (h9 : n ≤ 8900 := by decide) : CDivW x y := by
  have := PySem.Flt.log2_lt_of (n := y.natAbs) (k := 8900) (by decide) (sz_mono k h9)
  exact ⟨h, by omega⟩
def spAl (C : Addr) : Sp := fun vs H Q _ => ∃ (c x : Addr) (t b : Int), vs = [.ref c, .ref x] ∧ RatAt C H c t b ∧ FracAt H x t b ∧ Lo t b ∧ Sz 1300 t ∧ Sz 1300 b ∧ ∀ H', Same H H' → Q (.bl true) H'
theorem k_law_alone_right (T : Txt W.K W.mg a) : Cl W 7 "_law_alone_right" (spAl a.Ratio) := by
  refine cl_of' T.d_law_alone_right sc_law_alone_right bd_law_alone_right (fun vs H Q E ⟨c, x, t, b, h, _⟩ => by rw [h]; rfl) fun f cdv A outer s0 H vs Q E hr h => ?_
  obtain ⟨c, x, t, b, rfl, r, f1, lo, z, zb, q⟩ := h
  have o1 : Ok4 t b := ⟨lo, sz_mono z (by decide), sz_mono zb (by decide)⟩
  have y1 : Sz 1900 t := sz_mono z (by decide)
  have y2 : Sz 1900 b := sz_mono zb (by decide)
  have l1 := it_len y1
  have l2 := it_len y2
  have ls1 : ("Ratio(" : Str).length = 6 := by decide +kernel
  have ls2 : (", " : Str).length = 2 := by decide +kernel
  have ls3 : (")" : Str).length = 1 := by decide +kernel
  refine ⟨_, (pss_cons (ps_if (pt_cmpR (r := rNeU W.K) (op_neU hr.units) (pe_cl (k_law_told T) hr (by decide) rfl (pa_cons (pe_lst (pa_cons (pe_un (neg_m (mt_neg T) hr (by decide)) (pv 0)) (pa_cons (pe_callB (abs_m (mt_abs T) hr (by decide)) (by rfl) T.b_abs (by decide +kernel) (pa_cons (pv 0) pa_nil)) (pa_cons (pe_sm (sm_of T) hr (by decide) (pe_gn (v := .ref a.Ratio) (by rfl) T.o_Ratio.mg rfl) (pa_cons (pv 0) pa_nil)) pa_nil)))) pa_nil)) (pe_lst (pa_cons (pe_tup (pa_cons (pe_op op_subU pe_int (pe_ix (r := rIx W.K) ix_U (pv 1) pe_int (fun _ _ => rfl))) (pa_cons (pe_ix (r := rIx W.K) ix_U (pv 1) pe_int (fun _ _ => rfl)) pa_nil))) (pa_cons (pe_tup (pa_cons (pe_callB call_absU (by rfl) T.b_abs (by decide +kernel) (pa_cons (pe_ix (r := rIx W.K) ix_U (pv 1) pe_int (fun _ _ => rfl)) pa_nil)) (pa_cons (pe_ix (r := rIx W.K) ix_U (pv 1) pe_int (fun _ _ => rfl)) pa_nil))) (pa_cons (pv 1) pa_nil)))) (nomark _)) (pss_one (ps_ret pe_bl)) pss_nil) (pss_cons (ps_if (pt_cmpR (r := rNeU W.K) (op_neU hr.units) (pe_lst (pa_cons (pe_callTy (str_m (mt_str T) hr (by decide)) (by rfl) T.b_str (by decide +kernel) (pa_cons (pv 0) pa_nil)) (pa_cons (pe_callB (repr_m (mt_repr T) hr (by decide)) (by rfl) T.b_repr (by decide +kernel) (pa_cons (pv 0) pa_nil)) pa_nil))) (pe_lst (pa_cons (pe_cl (k_law_text T) hr (by decide) rfl (pa_cons (pv 1) pa_nil)) (pa_cons (pe_op op_addU (pe_op op_addU (pe_op op_addU (pe_op op_addU pe_str (pe_callTy call_strU (by rfl) T.b_str (by decide +kernel) (pa_cons (pe_ix (r := rIx W.K) ix_U (pv 1) pe_int (fun _ _ => rfl)) pa_nil))) pe_str) (pe_callTy call_strU (by rfl) T.b_str (by decide +kernel) (pa_cons (pe_ix (r := rIx W.K) ix_U (pv 1) pe_int (fun _ _ => rfl)) pa_nil))) pe_str) pa_nil))) (nomark _)) (pss_one (ps_ret pe_bl)) pss_nil) (pss_cons (ps_set (i := 2) sc_law_alone_right.nd rfl (Or.inl rfl) (pe_op op_subU pe_int (pe_op op_fdivU (pe_op op_subU pe_int (pe_ix (r := rIx W.K) ix_U (pv 1) pe_int (fun _ _ => rfl))) (pe_ix (r := rIx W.K) ix_U (pv 1) pe_int (fun _ _ => rfl))))) (pss_cons (ps_set (i := 3) sc_law_alone_right.nd rfl (Or.inl rfl) (pe_lst (pa_cons (pe_pp T.o_Ratio.cls (pp_top T) hr (by decide) (pv 0) rfl) (pa_cons (pe_pp T.o_Ratio.cls (pp_bottom T) hr (by decide) (pv 0) rfl) (pa_cons (pe_mt0 T.o_Ratio.cls (mt_floor T) hr (by decide) (pv 0)) (pa_cons (pe_mt0 T.o_Ratio.cls (mt_ceiling T) hr (by decide) (pv 0)) pa_nil)))))) (pss_one (ps_ret (pe_and (pe_cmpR (r := rEqU W.K) (op_eqU hr.units) (pv 3) (pe_lst (pa_cons (pe_ix (r := rIx W.K) ix_U (pv 1) pe_int (fun _ _ => rfl)) (pa_cons (pe_ix (r := rIx W.K) ix_U (pv 1) pe_int (fun _ _ => rfl)) (pa_cons (pe_op op_fdivU (pe_ix (r := rIx W.K) ix_U (pv 1) pe_int (fun _ _ => rfl)) (pe_ix (r := rIx W.K) ix_U (pv 1) pe_int (fun _ _ => rfl))) (pa_cons (pv 2) pa_nil))))) (nomark _)) (pe_one (pe_cl (k_law_are_integers T) hr (by decide) rfl (pa_cons (pv 3) pa_nil)))))))))), ?_⟩
  refine i_start (σ' := [some (V.ref c), some (V.ref x), none, none]) rfl ?_
  repeat walk_at "rd"
  refine i_negR r o1 fun r1 H1 _ s1 q1 => ?_
  rw [lo.neg.nu, lo.neg.de] at q1
  repeat walk_at "rd"
  refine i_absR (by walk_at "hp") o1 fun r2 H2 _ s2 q2 => ?_
  rw [lo.absI.nu, lo.absI.de] at q2
  repeat walk_at "rd"
  refine i_of (RatAt.num (by walk_at "hp")) o1.zt fun r3 H3 s3 q3 => ?_
  repeat walk_at "rd"
  refine i_mkL3 fun l4 H4 _ hl4 s4 => ?_
  repeat walk_at "rd"
  refine i_told3 hl4 (by walk_at "hp") (by walk_at "hp") (by walk_at "hp") fun l5 H5 _ s5 hl5 => ?_
  repeat walk_at "rd"
  rw [Int.zero_sub]
  refine i_mkT2 fun u6 H6 _ hu6 s6 => ?_
  repeat walk_at "rd"
  refine i_mkT2 fun u7 H7 _ hu7 s7 => ?_
  repeat walk_at "rd"
  refine i_mkL3 fun l8 H8 _ hl8 s8 => ?_
  have g6 : FracAt H6 u6 (-t) b := hu6
  have g7 : FracAt H7 u7 (if t < 0 then -t else t) b := hu7
  repeat walk_at "rd"
  refine i_neFr (by walk_at "hp") (frl3 hl8 (by walk_at "hp") (by walk_at "hp") (by walk_at "hp")) ?_
  repeat walk_at "rd"
  refine i_strR (by walk_at "hp") y1 y2 ?_
  repeat walk_at "rd"
  refine i_strR (by walk_at "hp") y1 y2 ?_
  repeat walk_at "rd"
  refine i_mkL2 fun l9 H9 _ hl9 s9 => ?_
  repeat walk_at "rd"
  refine i_text (by walk_at "hp") y1 y2 ?_
  repeat walk_at "rd"
  refine i_str_i y1 ?_
  repeat walk_at "rd"
  refine i_add_s (sl_of (by omega)) ?_
  repeat walk_at "rd"
  refine i_add_s (sl_of (by rw [app_len]; omega)) ?_
  repeat walk_at "rd"
  refine i_str_i y2 ?_
  repeat walk_at "rd"
  refine i_add_s (sl_of (by rw [app_len, app_len]; omega)) ?_
  repeat walk_at "rd"
  refine i_add_s (sl_of (by rw [app_len, app_len, app_len]; omega)) ?_
  repeat walk_at "rd"
  refine i_mkL2 fun l10 H10 _ hl10 s10 => ?_
  repeat walk_at "rd"
  refine i_neTx2 (t := t) (b := b) (by walk_at "hp") hl10 ?_
  repeat walk_at "rd"
  · refine i_int1 (by walk_at "hp") lo.pos (sz_mono zb (by decide)) ?_
    repeat walk_at "rd"
    refine i_int1 (by walk_at "hp") lo.pos (sz_mono zb (by decide)) ?_
    repeat walk_at "rd"
    refine i_mkL4 fun l11 H11 _ hl11 s11 => ?_
    repeat walk_at "rd"
    · refine i_mkL4 fun l12 H12 _ hl12 s12 => ?_
      repeat walk_at "rd"
      rw [Int.zero_sub, Int.zero_sub] at hl12
      refine i_eqIn4 (by walk_at "hp") hl12 ?_
      repeat walk_at "rd"
      exact i_ints4 (by walk_at "hp") fun H13 s13 => q _ (by walk_at "sm")
    all_goals exact cdivw_sz lo.pos zb
  all_goals exact cdivw_sz lo.pos zb
end Lw

namespace Lw
open PySem PySem.Spec PyProof.Rows L2 Ly
local macro_rules | `(tactic| walk_at "rd") => `(tactic| first
  | ((with_reducible refine' i_var ?hv ?_); (case hv => exact rfl))
  | with_reducible refine i_c ?_
  | with_reducible refine i_op ?_
  | with_reducible refine i_cons ?_
  | with_reducible refine i_nil ?_
  | with_reducible refine i_cb ?_
  | with_reducible refine i_call ?_
  | with_reducible refine i_I0 ?_
  | with_reducible refine i_add_i ?_
  | with_reducible refine i_sub_i ?_
  | with_reducible refine i_md_i (by first | decide | assumption) ?_
  | ((with_reducible refine' i_md_i ?c ?_); rotate_left)
  | ((with_reducible refine' i_mul_i ?c ?_); rotate_left)
  | with_reducible refine i_fd_i (by decide) ?_
  | ((with_reducible refine' i_fd_i ?c ?_); rotate_left)
  | with_reducible refine i_int ?_
  | with_reducible refine i_abs ?_
  | with_reducible refine i_max2 ?_
  | with_reducible refine i_min2 ?_
  | with_reducible refine i_gcd ?_
  | with_reducible refine i_seq ?_
  | with_reducible refine i_if ?_
  | with_reducible refine i_asg ?_
  | with_reducible refine i_ret ?_
  | with_reducible refine i_drop ?_
  | with_reducible refine i_next ?_
  | with_reducible refine i_un ?_
  | with_reducible refine i_U ?_
  | ((with_reducible refine i_gname ?_); dsimp only [List.set])
  | with_reducible refine i_test ?_
  | with_reducible refine i_not ?_
  | with_reducible refine i_or ?_
  | with_reducible refine i_and ?_
  | with_reducible refine i_tb ?_
  | with_reducible refine i_andV ?_
  | with_reducible refine i_orV ?_
  | with_reducible refine i_notV ?_
  | with_reducible refine i_ifx ?_
  | with_reducible refine i_ext ?_
  | with_reducible refine i_exf ?_
  | with_reducible refine i_exn ?_
  | with_reducible refine i_itt ?_
  | with_reducible refine i_itf ?_
  | with_reducible refine i_gsub ?_
  | with_reducible refine i_nt ?_
  | with_reducible refine i_tup ?_
  | with_reducible refine i_lst ?_
  | with_reducible refine i_nf ?_
  | with_reducible refine i_isint ?_
  | ((with_reducible refine' i_top ?r ?_); (case r => walk_at "hp"))
  | ((with_reducible refine' i_bot ?r ?_); (case r => walk_at "hp"))
  | with_reducible refine i_fld ?_
  | with_reducible refine i_sfld ?_
  | with_reducible refine i_pp ?_
  | with_reducible refine i_meth ?_
  | with_reducible refine i_smeth ?_
  | with_reducible refine i_make ?_
  | with_reducible refine i_sl ?_
  | with_reducible refine i_noPart ?_
  | with_reducible refine i_part ?_
  | with_reducible refine i_smethK ?_
  | with_reducible refine i_sk1 ?_
  | with_reducible refine i_makeK ?_
  | with_reducible refine i_methK ?_
  | with_reducible refine i_mk11 ?_
  | ((with_reducible refine' i_rmk ?r ?h1 ?h2 ?_); (case r => walk_at "hp"); (case h1 => decide +kernel); (case h2 => decide +kernel))
  | with_reducible refine i_tpar ?_
  | ((with_reducible refine i_rpar ?_); dsimp only [List.set])
  | with_reducible refine i_eq_s rfl ?_
  | with_reducible refine i_ne_s rfl ?_
  | ((with_reducible refine' i_rtop ?r ?c ?n ?_); (case r => walk_at "hp"); (case c => assumption); (case n => assumption))
  | ((with_reducible refine' i_rbot ?r ?c ?n ?_); (case r => walk_at "hp"); (case c => assumption); (case n => assumption))
  | ((with_reducible refine' i_rpp ?r ?_); (case r => walk_at "hp"))
  | ((with_reducible refine' i_rmeth ?r ?h1 ?h2 ?_); (case r => walk_at "hp"); (case h1 => decide +kernel); (case h2 => decide +kernel))
  | ((with_reducible refine' i_ix_l ?hp ?ha ?_); (case hp => walk_at "hp"); (case ha => exact rfl))
  | ((with_reducible refine' i_len_l ?hp ?_); (case hp => walk_at "hp"))
  | ((with_reducible refine' i_ix_f0 ?hp ?_); (case hp => walk_at "hp"))
  | ((with_reducible refine' i_ix_f1 ?hp ?_); (case hp => walk_at "hp"))
  | ((with_reducible refine' i_ix_t ?hp ?ha ?_); (case hp => walk_at "hp"); (case ha => exact rfl)))
local macro_rules | `(tactic| walk_at "hp") => `(tactic| first
  | assumption
  | exact upd_same
  | exact SqL.of (by assumption)
  | (refine' Dr.tup (by assumption) ?hq; (case hq => walk_at "hp"))
  | (refine' FrL.same (by assumption) ?hq; (case hq => walk_at "hp"))
  | (refine' FracAt.same (by assumption) ?hq; (case hq => walk_at "hp"))
  | (refine' FracAt.nl (by assumption) ?hq; (case hq => walk_at "hp"))
  | (refine' RatAt.nl (by assumption) ?hq; (case hq => walk_at "hp"))
  | (refine' Num.nl (by assumption) ?hq; (case hq => walk_at "hp"))
  | (refine' FracAt.pk (by assumption) ?hq; (case hq => walk_at "hp"))
  | (refine' RatAt.pk (by assumption) ?hq; (case hq => walk_at "hp"))
  | (refine' Num.pk (by assumption) ?hq; (case hq => walk_at "hp"))
  | (refine' Dr.keep (by assumption) _ _ (by assumption) ?hq; (case hq => walk_at "hp"))
  | (refine' (show Same _ _ by assumption) _ _ ?hq; (case hq => walk_at "hp"))
  | (refine' RatAt.same (by assumption) ?hq; (case hq => walk_at "hp"))
  | (refine' Num.same (by assumption) ?hq; (case hq => walk_at "hp")))
local macro_rules | `(tactic| walk_at "sm") => `(tactic| first
  | assumption
  | exact Same.refl _
  | (refine' Same.kl (by assumption) (by assumption) ?aa; (case aa => walk_at "sm"))
  | (refine' Same.trans ?aa (by assumption); (case aa => walk_at "sm")))
local macro_rules | `(tactic| walk_at "dr") => `(tactic| first
  | assumption
  | (refine' Dr.same ?aa (by assumption); (case aa => walk_at "dr"))
  | (refine' Dr.trans ?aa (by assumption); (case aa => walk_at "dr")))

variable {W : Wd} {a : Ad}
theorem i_eqBl4 {K : PySem.W.Frag} {H : Hp} {Q : VK} {r r' : Addr} {i j k n : Bool} (h1 : H r = some (.lst [.bl i, .bl j, .bl k, .bl n])) (h2 : H r' = some (.lst [.bl i, .bl j, .bl k, .bl n])) (q : Q (.bl true) H) : rEqU K (.ref r) (.ref r') H Q := i_eqBl (bs := [i, j, k, n]) h1 h2 q
theorem k_law_order_right (T : Txt W.K W.mg a) : Cl W 6 "_law_order_right" (spChk a.Ratio) := by
  refine cl_of' T.d_law_order_right sc_law_order_right bd_law_order_right (fun vs H Q E ⟨o, m, x, y, t, b, t2, b2, h, _⟩ => by rw [h]; rfl) fun f cdv A outer s0 H vs Q E hr h => ?_
  obtain ⟨o, m, x, y, t, b, t2, b2, rfl, g, q⟩ := h
  have o1 := g.ok
  have o2 := g.ok2
  obtain ⟨⟨c, rfl, r⟩, n, f1, f2, lo, lo2, z, zb, z2, zb2⟩ := g
  refine ⟨_, (pss_cons (ps_par (i := 7) (j := 8) (by rfl) sc_law_order_right.nd rfl rfl (by decide) rfl rfl (pa_cons (pe_op op_mulU (pe_ix (r := rIx W.K) ix_U (pv 2) pe_int (fun _ _ => rfl)) (pe_ix (r := rIx W.K) ix_U (pv 3) pe_int (fun _ _ => rfl))) (pa_cons (pe_op op_mulU (pe_ix (r := rIx W.K) ix_U (pv 3) pe_int (fun _ _ => rfl)) (pe_ix (r := rIx W.K) ix_U (pv 2) pe_int (fun _ _ => rfl))) pa_nil)) (by rfl)) (Evl.pss_cut (ps_set (i := 4) sc_law_order_right.nd rfl (Or.inl rfl) (pe_ifExp (pt_cmpR (r := rEqU W.K) (op_eqU hr.units) (pv 7) (pv 8) (nomark _)) pe_int (pe_ifExp (pt_cmpR op_gt (pv 7) (pv 8) (nomark _)) pe_int (pe_op op_subU pe_int pe_int)))) (pss_cons (ps_set (i := 5) sc_law_order_right.nd rfl (Or.inl rfl) (pe_lst (pa_cons (pe_mt T.o_Ratio.cls (mt_compare T) hr (by decide) (pv 0) (pa_cons (pv 1) pa_nil)) (pa_cons (pe_mtk T.o_Ratio.cls (mtk_compare T) hr (by decide) (pv 0) (pk_cons (pv 1) pk_nil)) pa_nil)))) (pss_cons (ps_if (PW.pt (pw_or (pt_cmpR (r := rNeU W.K) (op_neU hr.units) (pv 5) (pe_lst (pa_cons (pv 4) (pa_cons (pv 4) pa_nil))) (nomark _)) (pw_or1 (pt_not (pt_val (pe_cl (k_law_are_integers T) hr (by decide) rfl (pa_cons (pv 5) pa_nil))))))) (pss_one (ps_ret pe_bl)) pss_nil) (Evl.pss_cut (ps_set (i := 6) sc_law_order_right.nd rfl (Or.inl rfl) (pe_and (pe_callB (r := rIsi W.K) call_isi (by rfl) T.b_isinstance (by decide +kernel) (pa_cons (pv 1) (pa_cons (pe_gn (v := .ref a.Ratio) (by rfl) T.o_Ratio.mg rfl) pa_nil))) (pe_one (pe_cmpR (r := rEqU W.K) (op_eqU hr.units) (pv 2) (pv 3) (nomark _))))) (pss_one (ps_ret (pe_cmpR (r := rEqU W.K) (op_eqU hr.units) (pe_lst (pa_cons (pe_cmpR (op_eqN (mt_eq T) T.o_Ratio hr (by decide)) (pv 0) (pv 1) (nomark _)) (pa_cons (pe_cmpR (op_eqN (mt_eq T) T.o_Ratio hr (by decide)) (pv 1) (pv 0) (nomark _)) (pa_cons (pe_cmpR (op_neN (mt_eq T) T.o_Ratio T.x_Ratio_ne hr (by decide)) (pv 0) (pv 1) (nomark _)) (pa_cons (pe_cmpR (op_neN (mt_eq T) T.o_Ratio T.x_Ratio_ne hr (by decide)) (pv 1) (pv 0) (nomark _)) pa_nil))))) (pe_lst (pa_cons (pv 6) (pa_cons (pv 6) (pa_cons (pe_not (pv 6)) (pa_cons (pe_not (pv 6)) pa_nil))))) (nomark _))))))))), ?_⟩
  refine i_start (σ' := [some (V.ref c), some m, some (V.ref x), some (V.ref y), none, none, none, none, none]) rfl ?_
  repeat walk_at "rd"
  · refine ⟨fun σ' H' => ∃ v7 v8 : Option V, σ' = [some (V.ref c), some m, some (V.ref x), some (V.ref y), some (V.int (cmpI t b t2 b2)), none, none, v7, v8] ∧ H' = H, ?_, ?_⟩
    · repeat walk_at "rd"
      refine i_dec (fun h0 => ?_) (fun h0 => ?_)
      · repeat walk_at "rd"
        have e := V.int.inj h0
        have ec : cmpI t b t2 b2 = 0 := by unfold cmpI; rw [if_neg (by omega), if_neg (by omega)]
        rw [ec]
        exact ⟨_, _, rfl, rfl⟩
      · repeat walk_at "rd"
        have ne : t * b2 ≠ t2 * b := fun z => h0 (by rw [z])
        refine i_dec (fun h1 => ?_) (fun h1 => ?_)
        · repeat walk_at "rd"
          have ec : cmpI t b t2 b2 = 1 := by unfold cmpI; rw [if_neg (by omega), if_pos (by omega)]
          rw [ec]
          exact ⟨_, _, rfl, rfl⟩
        · repeat walk_at "rd"
          have ec : cmpI t b t2 b2 = 0 - 1 := by unfold cmpI; rw [if_pos (by omega)]; rfl
          rw [ec]
          exact ⟨_, _, rfl, rfl⟩
    · rintro σ' H' ⟨v7, v8, rfl, rfl⟩
      repeat walk_at "rd"
      refine i_cmp r o1 n o2 fun H1 s1 => ?_
      repeat walk_at "rd"
      refine i_mk11 ?_
      refine i_cmp (by walk_at "hp") o1 (by walk_at "hp") o2 fun H2 s2 => ?_
      repeat walk_at "rd"
      refine i_mkL2 fun l3 H3 _ hl3 s3 => ?_
      repeat walk_at "rd"
      refine i_mkL2 fun l4 H4 _ hl4 s4 => ?_
      repeat walk_at "rd"
      refine i_neIn2 (by walk_at "hp") hl4 ?_
      repeat walk_at "rd"
      refine i_ints2 (by walk_at "hp") fun H5 s5 => ?_
      repeat walk_at "rd"
      refine ⟨fun σ' H6 => ∃ v4 v5 v7 v8 : Option V, σ' = [some (V.ref c), some m, some (V.ref x), some (V.ref y), v4, v5, some (V.bl (sameR m t b t2 b2)), v7, v8] ∧ Same H' H6, ?_, ?_⟩
      · have n5 : Num a.Ratio H5 m t2 b2 := by walk_at "hp"
        repeat walk_at "rd"
        rcases n5 with ⟨rfl, rfl⟩ | ⟨d, rfl, rd⟩
        · refine i_isRi T ?_
          repeat walk_at "rd"
          exact ⟨_, _, _, _, rfl, by walk_at "sm"⟩
        · refine i_isR T rd ?_
          repeat walk_at "rd"
          refine i_eqF (by walk_at "hp") (by walk_at "hp") ?_
          repeat walk_at "rd"
          exact ⟨_, _, _, _, rfl, by walk_at "sm"⟩
      · rintro σ' H6 ⟨v4, v5, v7, v8, rfl, s6⟩
        clear hl3 hl4 s1 s2 s3 s4 s5
        repeat walk_at "rd"
        refine i_eqL (by walk_at "hp") (by walk_at "hp") ?_
        repeat walk_at "rd"
        refine i_eqR (by walk_at "hp") (by walk_at "hp") ?_
        repeat walk_at "rd"
        refine i_neL (by walk_at "hp") (by walk_at "hp") ?_
        repeat walk_at "rd"
        refine i_neR (by walk_at "hp") (by walk_at "hp") ?_
        repeat walk_at "rd"
        refine i_mkL4 fun l7 H7 _ hl7 s7 => ?_
        repeat walk_at "rd"
        refine i_mkL4 fun l8 H8 _ hl8 s8 => ?_
        repeat walk_at "rd"
        exact i_eqBl4 (by walk_at "hp") hl8 (q _ (by walk_at "sm"))
  all_goals first
    | exact cmul_sz z zb2
    | exact cmul_sz z2 zb
end Lw

namespace Lw
open PySem PySem.Spec PyProof.Rows L2 Ly
local macro_rules | `(tactic| walk_at "rd") => `(tactic| first
  | ((with_reducible refine' i_var ?hv ?_); (case hv => exact rfl))
  | with_reducible refine i_c ?_
  | with_reducible refine i_op ?_
  | with_reducible refine i_cons ?_
  | with_reducible refine i_nil ?_
  | with_reducible refine i_cb ?_
  | with_reducible refine i_call ?_
  | with_reducible refine i_I0 ?_
  | with_reducible refine i_add_i ?_
  | with_reducible refine i_sub_i ?_
  | with_reducible refine i_md_i (by first | decide | assumption) ?_
  | ((with_reducible refine' i_md_i ?c ?_); rotate_left)
  | ((with_reducible refine' i_mul_i ?c ?_); rotate_left)
  | with_reducible refine i_fd_i (by decide) ?_
  | ((with_reducible refine' i_fd_i ?c ?_); rotate_left)
  | with_reducible refine i_int ?_
  | with_reducible refine i_abs ?_
  | with_reducible refine i_max2 ?_
  | with_reducible refine i_min2 ?_
  | with_reducible refine i_gcd ?_
  | with_reducible refine i_seq ?_
  | with_reducible refine i_if ?_
  | with_reducible refine i_asg ?_
  | with_reducible refine i_ret ?_
  | with_reducible refine i_drop ?_
  | with_reducible refine i_next ?_
  | with_reducible refine i_un ?_
  | with_reducible refine i_U ?_
  | ((with_reducible refine i_gname ?_); dsimp only [List.set])
  | with_reducible refine i_test ?_
  | with_reducible refine i_not ?_
  | with_reducible refine i_or ?_
  | with_reducible refine i_and ?_
  | with_reducible refine i_tb ?_
  | with_reducible refine i_andV ?_
  | with_reducible refine i_orV ?_
  | with_reducible refine i_notV ?_
  | with_reducible refine i_ifx ?_
  | with_reducible refine i_ext ?_
  | with_reducible refine i_exf ?_
  | with_reducible refine i_exn ?_
  | with_reducible refine i_itt ?_
  | with_reducible refine i_itf ?_
  | with_reducible refine i_gsub ?_
  | with_reducible refine i_nt ?_
  | with_reducible refine i_tup ?_
  | with_reducible refine i_lst ?_
  | with_reducible refine i_nf ?_
  | with_reducible refine i_isint ?_
  | ((with_reducible refine' i_top ?r ?_); (case r => walk_at "hp"))
  | ((with_reducible refine' i_bot ?r ?_); (case r => walk_at "hp"))
  | with_reducible refine i_fld ?_
  | with_reducible refine i_sfld ?_
  | with_reducible refine i_pp ?_
  | with_reducible refine i_meth ?_
  | with_reducible refine i_smeth ?_
  | with_reducible refine i_make ?_
  | with_reducible refine i_sl ?_
  | with_reducible refine i_noPart ?_
  | with_reducible refine i_part ?_
  | with_reducible refine i_smethK ?_
  | with_reducible refine i_sk1 ?_
  | with_reducible refine i_makeK ?_
  | with_reducible refine i_methK ?_
  | with_reducible refine i_mk11 ?_
  | ((with_reducible refine' i_rmk ?r ?h1 ?h2 ?_); (case r => walk_at "hp"); (case h1 => decide +kernel); (case h2 => decide +kernel))
  | with_reducible refine i_tpar ?_
  | ((with_reducible refine i_rpar ?_); dsimp only [List.set])
  | with_reducible refine i_eq_s rfl ?_
  | with_reducible refine i_ne_s rfl ?_
  | ((with_reducible refine' i_rtop ?r ?c ?n ?_); (case r => walk_at "hp"); (case c => assumption); (case n => assumption))
  | ((with_reducible refine' i_rbot ?r ?c ?n ?_); (case r => walk_at "hp"); (case c => assumption); (case n => assumption))
  | ((with_reducible refine' i_rpp ?r ?_); (case r => walk_at "hp"))
  | ((with_reducible refine' i_rmeth ?r ?h1 ?h2 ?_); (case r => walk_at "hp"); (case h1 => decide +kernel); (case h2 => decide +kernel))
  | ((with_reducible refine' i_ix_l ?hp ?ha ?_); (case hp => walk_at "hp"); (case ha => exact rfl))
  | ((with_reducible refine' i_len_l ?hp ?_); (case hp => walk_at "hp"))
  | ((with_reducible refine' i_ix_f0 ?hp ?_); (case hp => walk_at "hp"))
  | ((with_reducible refine' i_ix_f1 ?hp ?_); (case hp => walk_at "hp"))
  | ((with_reducible refine' i_ix_t ?hp ?ha ?_); (case hp => walk_at "hp"); (case ha => exact rfl)))
local macro_rules | `(tactic| walk_at "hp") => `(tactic| first
  | assumption
  | exact upd_same
  | exact SqL.of (by assumption)
  | (refine' Dr.tup (by assumption) ?hq; (case hq => walk_at "hp"))
  | (refine' FrL.same (by assumption) ?hq; (case hq => walk_at "hp"))
  | (refine' FracAt.same (by assumption) ?hq; (case hq => walk_at "hp"))
  | (refine' FracAt.nl (by assumption) ?hq; (case hq => walk_at "hp"))
  | (refine' RatAt.nl (by assumption) ?hq; (case hq => walk_at "hp"))
  | (refine' Num.nl (by assumption) ?hq; (case hq => walk_at "hp"))
  | (refine' FracAt.pk (by assumption) ?hq; (case hq => walk_at "hp"))
  | (refine' RatAt.pk (by assumption) ?hq; (case hq => walk_at "hp"))
  | (refine' Num.pk (by assumption) ?hq; (case hq => walk_at "hp"))
  | (refine' Dr.keep (by assumption) _ _ (by assumption) ?hq; (case hq => walk_at "hp"))
  | (refine' (show Same _ _ by assumption) _ _ ?hq; (case hq => walk_at "hp"))
  | (refine' RatAt.same (by assumption) ?hq; (case hq => walk_at "hp"))
  | (refine' Num.same (by assumption) ?hq; (case hq => walk_at "hp")))
local macro_rules | `(tactic| walk_at "sm") => `(tactic| first
  | assumption
  | exact Same.refl _
  | (refine' Same.kl (by assumption) (by assumption) ?aa; (case aa => walk_at "sm"))
  | (refine' Same.trans ?aa (by assumption); (case aa => walk_at "sm")))
local macro_rules | `(tactic| walk_at "dr") => `(tactic| first
  | assumption
  | (refine' Dr.same ?aa (by assumption); (case aa => walk_at "dr"))
  | (refine' Dr.trans ?aa (by assumption); (case aa => walk_at "dr")))

variable {W : Wd} {a : Ad}
theorem k_law_in_place_right (T : Txt W.K W.mg a) : Cl W 13 "_law_in_place_right" (spChk a.Ratio) := by
  refine cl_of' T.d_law_in_place_right sc_law_in_place_right bd_law_in_place_right (fun vs H Q E ⟨o, m, x, y, t, b, t2, b2, h, _⟩ => by rw [h]; rfl) fun f cdv A outer s0 H vs Q E hr h => ?_
  obtain ⟨o, m, x, y, t, b, t2, b2, rfl, g, q⟩ := h
  have o1 := g.ok
  have o2 := g.ok2
  obtain ⟨⟨c, rfl, r⟩, n, f1, f2, lo, lo2, z, zb, z2, zb2⟩ := g
  refine ⟨_, (pss_cons (ps_set (i := 4) sc_law_in_place_right.nd rfl (Or.inl rfl) (pe_lst (pa_cons (pv 0) (pa_cons (pv 0) (pa_cons (pv 0) pa_nil))))) (pss_cons (ps_augS (pv 4) pe_int pget_list (pv 1) (ip_addN (mt_add T) (mt_radd T) T.o_Ratio T.x_Ratio_iadd hr (by decide)) set_list) (pss_cons (ps_augS (pv 4) pe_int pget_list (pv 1) (ip_subN (mt_sub T) (mt_rsub T) T.o_Ratio T.x_Ratio_isub hr (by decide)) set_list) (pss_cons (ps_augS (pv 4) pe_int pget_list (pv 1) (ip_mulN (mt_mul T) (mt_rmul T) T.o_Ratio T.x_Ratio_imul hr (by decide)) set_list) (pss_cons (ps_if (pt_cmpR (r := rNeU W.K) (op_neU hr.units) (pe_cl (k_law_told T) hr (by decide) rfl (pa_cons (pv 4) pa_nil)) (pe_lst (pa_cons (pe_cl (k_law_plus T) hr (by decide) rfl (pa_cons (pv 2) (pa_cons (pv 3) pa_nil))) (pa_cons (pe_cl (k_law_less T) hr (by decide) rfl (pa_cons (pv 2) (pa_cons (pv 3) pa_nil))) (pa_cons (pe_cl (k_law_times T) hr (by decide) rfl (pa_cons (pv 2) (pa_cons (pv 3) pa_nil))) pa_nil)))) (nomark _)) (pss_one (ps_ret pe_bl)) pss_nil) (Evl.pss_cut (ps_if (pt_cmpR (r := rNeU W.K) (op_neU hr.units) (pe_ix (r := rIx W.K) ix_U (pv 3) pe_int (fun _ _ => rfl)) pe_int (nomark _)) (pss_cons (ps_par (i := 5) (j := 6) (by rfl) sc_law_in_place_right.nd rfl rfl (by decide) rfl rfl (pa_cons (pv 0) (pa_cons (pv 0) pa_nil)) (by rfl)) (pss_cons (ps_aug (i := 5) sc_law_in_place_right.nd rfl (Or.inl rfl) (pv 1) (ip_fdN (mt_floordiv T) (mt_rfloordiv T) T.o_Ratio T.x_Ratio_ifloordiv hr (by decide))) (pss_cons (ps_aug (i := 6) sc_law_in_place_right.nd rfl (Or.inl rfl) (pv 1) (ip_mdN (mt_mod T) (mt_rmod T) T.o_Ratio T.x_Ratio_imod hr (by decide))) (pss_one (ps_if (PW.pt (pw_or (pt_cmpR (r := rNeU W.K) (op_neU hr.units) (pv 5) (pe_cl (k_law_floor T) hr (by decide) rfl (pa_cons (pv 2) (pa_cons (pv 3) pa_nil))) (nomark _)) (pw_or1 (pt_cmpR (r := rNeU W.K) (op_neU hr.units) (pe_cl (k_law_told T) hr (by decide) rfl (pa_cons (pe_lst (pa_cons (pv 6) pa_nil)) pa_nil)) (pe_lst (pa_cons (pe_cl (k_law_rest T) hr (by decide) rfl (pa_cons (pv 2) (pa_cons (pv 3) pa_nil))) pa_nil)) (nomark _))))) (pss_one (ps_ret pe_bl)) pss_nil))))) pss_nil) (pss_one (ps_ret (pe_cmpR (r := rEqU W.K) (op_eqU hr.units) (pe_cl (k_law_told T) hr (by decide) rfl (pa_cons (pe_lst (pa_cons (pv 0) pa_nil)) pa_nil)) (pe_lst (pa_cons (pv 2) pa_nil)) (nomark _)))))))))), ?_⟩
  refine i_start (σ' := [some (V.ref c), some m, some (V.ref x), some (V.ref y), none, none, none]) rfl ?_
  repeat walk_at "rd"
  refine i_mkL3 fun l H1 nl hl s1 => ?_
  repeat walk_at "rd"
  refine i_augS ?_
  repeat walk_at "rd"
  refine i_getL (m := 0) (v := V.ref c) (SqL.of hl) rfl ?_
  repeat walk_at "rd"
  refine i_inp (by walk_at "hp") (by walk_at "hp") o1 o2 fun r2 H2 _ s2 q2 => ?_
  repeat walk_at "rd"
  refine i_setL (ys := [V.ref r2, V.ref c, V.ref c]) (s2 _ _ hl) rfl rfl fun H3 s3 k3 hl3 => ?_
  clear hl
  repeat walk_at "rd"
  refine i_augS ?_
  repeat walk_at "rd"
  refine i_getL (m := 1) (v := V.ref c) (SqL.of hl3) rfl ?_
  repeat walk_at "rd"
  refine i_inp (by walk_at "hp") (by walk_at "hp") o1 o2 fun r4 H4 _ s4 q4 => ?_
  repeat walk_at "rd"
  refine i_setL (ys := [V.ref r2, V.ref r4, V.ref c]) (s4 _ _ hl3) rfl rfl fun H5 s5 k5 hl5 => ?_
  clear hl3
  repeat walk_at "rd"
  refine i_augS ?_
  repeat walk_at "rd"
  refine i_getL (m := 2) (v := V.ref c) (SqL.of hl5) rfl ?_
  repeat walk_at "rd"
  refine i_inp (by walk_at "hp") (by walk_at "hp") o1 o2 fun r6 H6 _ s6 q6 => ?_
  repeat walk_at "rd"
  refine i_setL (ys := [V.ref r2, V.ref r4, V.ref r6]) (s6 _ _ hl5) rfl rfl fun H7 s7 k7 hl7 => ?_
  clear hl5
  repeat walk_at "rd"
  refine i_told3 hl7 (by walk_at "hp") (by walk_at "hp") (by walk_at "hp") fun l8 H8 _ s8 hl8 => ?_
  repeat walk_at "rd"
  refine i_f2 (by walk_at "hp") (by walk_at "hp") o1 o2 trivial fun u9 H9 _ s9 g9 => ?_
  repeat walk_at "rd"
  refine i_f2 (by walk_at "hp") (by walk_at "hp") o1 o2 trivial fun u10 H10 _ s10 g10 => ?_
  repeat walk_at "rd"
  refine i_f2 (by walk_at "hp") (by walk_at "hp") o1 o2 trivial fun u11 H11 _ s11 g11 => ?_
  repeat walk_at "rd"
  refine i_mkL3 fun l12 H12 _ hl12 s12 => ?_
  repeat walk_at "rd"
  refine i_neFr (by walk_at "hp") (frl3 hl12 (by walk_at "hp") (by walk_at "hp") (by walk_at "hp")) ?_
  repeat walk_at "rd"
  have sA : Same H H12 := by walk_at "sm"
  clear hl7 hl8 hl12 g9 g10 g11 q2 q4 q6 s1 s2 s3 s4 s5 s6 s7 s8 s9 s10 s11 s12 k3 k5 k7
  refine ⟨fun σ' H' => ∃ v4 v5 v6 : Option V, σ' = [some (V.ref c), some m, some (V.ref x), some (V.ref y), v4, v5, v6] ∧ Same H H', ?_, ?_⟩
  · repeat walk_at "rd"
    refine i_ndec (fun h0 => ?_) (fun h0 => ?_)
    · repeat walk_at "rd"
      exact ⟨_, _, _, rfl, by walk_at "sm"⟩
    · have h1 : t2 ≠ 0 := fun e => h0 (by rw [e])
      repeat walk_at "rd"
      refine i_aug rfl ?_
      repeat walk_at "rd"
      refine i_inpG (by walk_at "hp") (by walk_at "hp") o1 o2 h1 fun H13 s13 => ?_
      dsimp only [List.set]
      repeat walk_at "rd"
      refine i_aug rfl ?_
      repeat walk_at "rd"
      refine i_inpG (by walk_at "hp") (by walk_at "hp") o1 o2 ⟨h1, z, zb, z2, zb2⟩ fun r14 H14 _ s14 q14 => ?_
      dsimp only [List.set]
      repeat walk_at "rd"
      refine ⟨x, y, t, b, t2, b2, rfl, by walk_at "hp", by walk_at "hp", o1, o2, h1, ?_⟩
      refine i_ne_s rfl ?_
      rw [decide_eq_true rfl]
      repeat walk_at "rd"
      refine i_mkL1 fun l15 H15 _ hl15 s15 => ?_
      repeat walk_at "rd"
      refine i_told1 hl15 (by walk_at "hp") fun l16 H16 _ s16 hl16 => ?_
      repeat walk_at "rd"
      refine i_f2 (by walk_at "hp") (by walk_at "hp") o1 o2 ⟨h1, z, zb, z2, zb2⟩ fun u17 H17 _ s17 g17 => ?_
      repeat walk_at "rd"
      refine i_mkL1 fun l18 H18 _ hl18 s18 => ?_
      repeat walk_at "rd"
      refine i_neFr (by walk_at "hp") (frl1 hl18 (by walk_at "hp")) ?_
      repeat walk_at "rd"
      exact ⟨_, _, _, rfl, by walk_at "sm"⟩
  · rintro σ' H0 ⟨v4, v5, v6, rfl, sB⟩
    clear sA
    repeat walk_at "rd"
    refine i_mkL1 fun l15 H15 _ hl15 s15 => ?_
    repeat walk_at "rd"
    refine i_told1 hl15 (by walk_at "hp") fun l16 H16 _ s16 hl16 => ?_
    repeat walk_at "rd"
    refine i_mkL1 fun l18 H18 _ hl18 s18 => ?_
    repeat walk_at "rd"
    exact i_eqFr (by walk_at "hp") (frl1 hl18 (by walk_at "hp")) (q _ (by walk_at "sm"))
end Lw

namespace Lw
open PySem PySem.Spec PyProof.Rows L2 Ly
local macro_rules | `(tactic| walk_at "rd") => `(tactic| first
  | ((with_reducible refine' i_var ?hv ?_); (case hv => exact rfl))
  | with_reducible refine i_c ?_
  | with_reducible refine i_op ?_
  | with_reducible refine i_cons ?_
  | with_reducible refine i_nil ?_
  | with_reducible refine i_cb ?_
  | with_reducible refine i_call ?_
  | with_reducible refine i_I0 ?_
  | with_reducible refine i_add_i ?_
  | with_reducible refine i_sub_i ?_
  | with_reducible refine i_md_i (by first | decide | assumption) ?_
  | ((with_reducible refine' i_md_i ?c ?_); rotate_left)
  | ((with_reducible refine' i_mul_i ?c ?_); rotate_left)
  | with_reducible refine i_fd_i (by decide) ?_
  | ((with_reducible refine' i_fd_i ?c ?_); rotate_left)
  | with_reducible refine i_int ?_
  | with_reducible refine i_abs ?_
  | with_reducible refine i_max2 ?_
  | with_reducible refine i_min2 ?_
  | with_reducible refine i_gcd ?_
  | with_reducible refine i_seq ?_
  | with_reducible refine i_if ?_
  | with_reducible refine i_asg ?_
  | with_reducible refine i_ret ?_
  | with_reducible refine i_drop ?_
  | with_reducible refine i_next ?_
  | with_reducible refine i_un ?_
  | with_reducible refine i_U ?_
  | ((with_reducible refine i_gname ?_); dsimp only [List.set])
  | with_reducible refine i_test ?_
  | with_reducible refine i_not ?_
  | with_reducible refine i_tb ?_
  | with_reducible refine i_andV ?_
  | with_reducible refine i_orV ?_
  | with_reducible refine i_notV ?_
  | with_reducible refine i_ifx ?_
  | with_reducible refine i_ext ?_
  | with_reducible refine i_exf ?_
  | with_reducible refine i_exn ?_
  | with_reducible refine i_itt ?_
  | with_reducible refine i_itf ?_
  | with_reducible refine i_gsub ?_
  | with_reducible refine i_nt ?_
  | with_reducible refine i_tup ?_
  | with_reducible refine i_lst ?_
  | with_reducible refine i_nf ?_
  | with_reducible refine i_isint ?_
  | ((with_reducible refine' i_top ?r ?_); (case r => walk_at "hp"))
  | ((with_reducible refine' i_bot ?r ?_); (case r => walk_at "hp"))
  | with_reducible refine i_fld ?_
  | with_reducible refine i_sfld ?_
  | with_reducible refine i_pp ?_
  | with_reducible refine i_meth ?_
  | with_reducible refine i_smeth ?_
  | with_reducible refine i_make ?_
  | with_reducible refine i_sl ?_
  | with_reducible refine i_noPart ?_
  | with_reducible refine i_part ?_
  | with_reducible refine i_smethK ?_
  | with_reducible refine i_sk1 ?_
  | with_reducible refine i_makeK ?_
  | with_reducible refine i_methK ?_
  | with_reducible refine i_mk11 ?_
  | ((with_reducible refine' i_rmk ?r ?h1 ?h2 ?_); (case r => walk_at "hp"); (case h1 => decide +kernel); (case h2 => decide +kernel))
  | with_reducible refine i_tpar ?_
  | ((with_reducible refine i_rpar ?_); dsimp only [List.set])
  | with_reducible refine i_eq_s rfl ?_
  | with_reducible refine i_ne_s rfl ?_
  | ((with_reducible refine' i_rtop ?r ?c ?n ?_); (case r => walk_at "hp"); (case c => assumption); (case n => assumption))
  | ((with_reducible refine' i_rbot ?r ?c ?n ?_); (case r => walk_at "hp"); (case c => assumption); (case n => assumption))
  | ((with_reducible refine' i_rpp ?r ?_); (case r => walk_at "hp"))
  | ((with_reducible refine' i_rmeth ?r ?h1 ?h2 ?_); (case r => walk_at "hp"); (case h1 => decide +kernel); (case h2 => decide +kernel))
  | ((with_reducible refine' i_ix_l ?hp ?ha ?_); (case hp => walk_at "hp"); (case ha => exact rfl))
  | ((with_reducible refine' i_len_l ?hp ?_); (case hp => walk_at "hp"))
  | ((with_reducible refine' i_ix_f0 ?hp ?_); (case hp => walk_at "hp"))
  | ((with_reducible refine' i_ix_f1 ?hp ?_); (case hp => walk_at "hp"))
  | ((with_reducible refine' i_ix_t ?hp ?ha ?_); (case hp => walk_at "hp"); (case ha => exact rfl)))
local macro_rules | `(tactic| walk_at "hp") => `(tactic| first
  | assumption
  | exact upd_same
  | exact SqL.of (by assumption)
  | (refine' Dr.tup (by assumption) ?hq; (case hq => walk_at "hp"))
  | (refine' FrL.same (by assumption) ?hq; (case hq => walk_at "hp"))
  | (refine' FracAt.same (by assumption) ?hq; (case hq => walk_at "hp"))
  | (refine' FracAt.nl (by assumption) ?hq; (case hq => walk_at "hp"))
  | (refine' RatAt.nl (by assumption) ?hq; (case hq => walk_at "hp"))
  | (refine' Num.nl (by assumption) ?hq; (case hq => walk_at "hp"))
  | (refine' FracAt.pk (by assumption) ?hq; (case hq => walk_at "hp"))
  | (refine' RatAt.pk (by assumption) ?hq; (case hq => walk_at "hp"))
  | (refine' Num.pk (by assumption) ?hq; (case hq => walk_at "hp"))
  | (refine' Dr.keep (by assumption) _ _ (by assumption) ?hq; (case hq => walk_at "hp"))
  | (refine' (show Same _ _ by assumption) _ _ ?hq; (case hq => walk_at "hp"))
  | (refine' RatAt.same (by assumption) ?hq; (case hq => walk_at "hp"))
  | (refine' Num.same (by assumption) ?hq; (case hq => walk_at "hp")))
local macro_rules | `(tactic| walk_at "sm") => `(tactic| first
  | assumption
  | exact Same.refl _
  | (refine' Same.kl (by assumption) (by assumption) ?aa; (case aa => walk_at "sm"))
  | (refine' Same.trans ?aa (by assumption); (case aa => walk_at "sm")))
local macro_rules | `(tactic| walk_at "dr") => `(tactic| first
  | assumption
  | (refine' Dr.same ?aa (by assumption); (case aa => walk_at "dr"))
  | (refine' Dr.trans ?aa (by assumption); (case aa => walk_at "dr")))

variable {W : Wd} {a : Ad}
def spReg : Sp := fun vs H Q _ => ∃ p : Addr, vs = [.ref p] ∧ Pot H p ∧ ∀ H', Dr p H H' → Q (.bl true) H'
def RJ (C p : Addr) (H : Hp) (i : Nat) (σ : L2.St) (H' : Hp) : Prop := ∃ (x c : Addr) (t b : Int) (v3 v4 v5 v6 : Option V), σ = [some (.ref p), some (.ref x), some (.ref c), v3, v4, v5, v6] ∧ Dr p H H' ∧ FracAt H' x t b ∧ RatAt C H' c t b ∧ Lo t b ∧ Sz (96 + 97 * i) t ∧ Sz (30 + 96 * i) b
theorem k_law_register_right (T : Txt W.K W.mg a) : Cl W 15 "_law_register_right" spReg := by
  refine cl_of' T.d_law_register_right sc_law_register_right bd_law_register_right (fun vs H Q E ⟨p, h, _⟩ => by rw [h]; rfl) fun f cdv A outer s0 H vs Q E hr h => ?_
  obtain ⟨p, rfl, hp, q⟩ := h
  refine ⟨_, (pss_cons (ps_set (i := 1) sc_law_register_right.nd rfl (Or.inl rfl) (pe_cl (k_law_drawn T) hr (by decide) rfl (pa_cons (pv 0) pa_nil))) (pss_cons (ps_set (i := 2) sc_law_register_right.nd rfl (Or.inl rfl) (pe_cl (k_law_made T) hr (by decide) rfl (pa_cons (pv 0) (pa_cons (pv 1) pa_nil)))) (pss_cons (ps_for PassesOwn.never rfl (pi_range1 rfl T.b_range (pa_cons (pe_cl (k_law_draw T) hr (by decide) rfl (pa_cons (pv 0) (pa_cons pe_int pa_nil))) pa_nil)) (pg_name (i := 3) sc_law_register_right.nd rfl (Or.inl rfl)) (pss_cons (ps_par (i := 5) (j := 6) (by rfl) sc_law_register_right.nd rfl rfl (by decide) rfl rfl (pa_cons (pe_cl (k_law_drawn T) hr (by decide) rfl (pa_cons (pv 0) pa_nil)) (pa_cons (pe_cl (k_law_draw T) hr (by decide) rfl (pa_cons (pv 0) (pa_cons pe_int pa_nil))) pa_nil)) (by rfl)) (pss_cons (ps_set (i := 4) sc_law_register_right.nd rfl (Or.inl rfl) (pe_cl (k_law_side T) hr (by decide) rfl (pa_cons (pv 0) (pa_cons (pv 5) pa_nil)))) (Evl.pss_cut (ps_if (pt_cmpR (r := rEqU W.K) (op_eqU hr.units) (pv 6) pe_int (nomark _)) (pss_one (ps_par (i := 2) (j := 1) (by rfl) sc_law_register_right.nd rfl rfl (by decide) rfl rfl (pa_cons (pe_op (op_addN (mt_add T) (mt_radd T) T.o_Ratio hr (by decide) (by decide)) (pv 2) (pv 4)) (pa_cons (pe_cl (k_law_plus T) hr (by decide) rfl (pa_cons (pv 1) (pa_cons (pv 5) pa_nil))) pa_nil)) (by rfl))) (pss_one (ps_if (pt_cmpR (r := rEqU W.K) (op_eqU hr.units) (pv 6) pe_int (nomark _)) (pss_one (ps_par (i := 2) (j := 1) (by rfl) sc_law_register_right.nd rfl rfl (by decide) rfl rfl (pa_cons (pe_op (op_subN (mt_sub T) (mt_rsub T) T.o_Ratio hr (by decide) (by decide)) (pv 4) (pv 2)) (pa_cons (pe_cl (k_law_less T) hr (by decide) rfl (pa_cons (pv 5) (pa_cons (pv 1) pa_nil))) pa_nil)) (by rfl))) (pss_one (ps_if (pt_cmpR (r := rEqU W.K) (op_eqU hr.units) (pv 6) pe_int (nomark _)) (pss_one (ps_par (i := 2) (j := 1) (by rfl) sc_law_register_right.nd rfl rfl (by decide) rfl rfl (pa_cons (pe_op (op_mulN (mt_mul T) (mt_rmul T) T.o_Ratio hr (by decide) (by decide)) (pv 2) (pv 4)) (pa_cons (pe_cl (k_law_times T) hr (by decide) rfl (pa_cons (pv 1) (pa_cons (pv 5) pa_nil))) pa_nil)) (by rfl))) (pss_one (ps_if (PW.pt (pw_and (pt_cmpR (r := rEqU W.K) (op_eqU hr.units) (pv 6) pe_int (nomark _)) (pw_and1 (pt_cmpR (r := rNeU W.K) (op_neU hr.units) (pe_ix (r := rIx W.K) ix_U (pv 5) pe_int (fun _ _ => rfl)) pe_int (nomark _))))) (pss_one (ps_par (i := 2) (j := 1) (by rfl) sc_law_register_right.nd rfl rfl (by decide) rfl rfl (pa_cons (pe_mt T.o_Ratio.cls (mt_over T) hr (by decide) (pv 2) (pa_cons (pv 4) pa_nil)) (pa_cons (pe_cl (k_law_frac T) hr (by decide) rfl (pa_cons (pe_op op_mulU (pe_ix (r := rIx W.K) ix_U (pv 1) pe_int (fun _ _ => rfl)) (pe_ix (r := rIx W.K) ix_U (pv 5) pe_int (fun _ _ => rfl))) (pa_cons (pe_op op_mulU (pe_ix (r := rIx W.K) ix_U (pv 1) pe_int (fun _ _ => rfl)) (pe_ix (r := rIx W.K) ix_U (pv 5) pe_int (fun _ _ => rfl))) pa_nil))) pa_nil)) (by rfl))) (pss_one (ps_if (PW.pt (pw_and (pt_cmpR (r := rEqU W.K) (op_eqU hr.units) (pv 6) pe_int (nomark _)) (pw_and1 (pt_cmpR (r := rNeU W.K) (op_neU hr.units) (pe_ix (r := rIx W.K) ix_U (pv 5) pe_int (fun _ _ => rfl)) pe_int (nomark _))))) (pss_one (ps_par (i := 2) (j := 1) (by rfl) sc_law_register_right.nd rfl rfl (by decide) rfl rfl (pa_cons (pe_op (op_mdN (mt_mod T) (mt_rmod T) T.o_Ratio hr (by decide) (by decide)) (pv 2) (pv 4)) (pa_cons (pe_cl (k_law_rest T) hr (by decide) rfl (pa_cons (pv 1) (pa_cons (pv 5) pa_nil))) pa_nil)) (by rfl))) (pss_one (ps_if (PW.pt (pw_and (pt_cmpR (r := rEqU W.K) (op_eqU hr.units) (pv 6) pe_int (nomark _)) (pw_and1 (pt_cmpR (r := rNeU W.K) (op_neU hr.units) (pe_ix (r := rIx W.K) ix_U (pv 1) pe_int (fun _ _ => rfl)) pe_int (nomark _))))) (pss_one (ps_par (i := 2) (j := 1) (by rfl) sc_law_register_right.nd rfl rfl (by decide) rfl rfl (pa_cons (pe_op (op_mdN (mt_mod T) (mt_rmod T) T.o_Ratio hr (by decide) (by decide)) (pv 4) (pv 2)) (pa_cons (pe_cl (k_law_rest T) hr (by decide) rfl (pa_cons (pv 5) (pa_cons (pv 1) pa_nil))) pa_nil)) (by rfl))) (pss_one (ps_par (i := 2) (j := 1) (by rfl) sc_law_register_right.nd rfl rfl (by decide) rfl rfl (pa_cons (pe_op (op_subN (mt_sub T) (mt_rsub T) T.o_Ratio hr (by decide) (by decide)) (pe_callB (abs_m (mt_abs T) hr (by decide)) (by rfl) T.b_abs (by decide +kernel) (pa_cons (pe_un (neg_m (mt_neg T) hr (by decide)) (pv 2)) pa_nil)) (pv 2)) (pa_cons (pe_cl (k_law_less T) hr (by decide) rfl (pa_cons (pe_tup (pa_cons (pe_callB call_absU (by rfl) T.b_abs (by decide +kernel) (pa_cons (pe_ix (r := rIx W.K) ix_U (pv 1) pe_int (fun _ _ => rfl)) pa_nil)) (pa_cons (pe_ix (r := rIx W.K) ix_U (pv 1) pe_int (fun _ _ => rfl)) pa_nil))) (pa_cons (pv 1) pa_nil))) pa_nil)) (by rfl)))))))))))))) (pss_one (ps_if (PW.pt (pw_or (pt_cmpR (r := rNeU W.K) (op_neU hr.units) (pe_cl (k_law_told T) hr (by decide) rfl (pa_cons (pe_lst (pa_cons (pv 2) pa_nil)) pa_nil)) (pe_lst (pa_cons (pv 1) pa_nil)) (nomark _)) (pw_or1 (pt_cmpR (r := rNeU W.K) (op_neU hr.units) (pe_callTy (str_m (mt_str T) hr (by decide)) (by rfl) T.b_str (by decide +kernel) (pa_cons (pv 2) pa_nil)) (pe_cl (k_law_text T) hr (by decide) rfl (pa_cons (pv 1) pa_nil)) (nomark _))))) (pss_one (ps_ret pe_bl)) pss_nil)))))) (pss_one (ps_ret pe_bl))))), ?_⟩
  refine i_start (σ' := [some (V.ref p), none, none, none, none, none, none]) rfl ?_
  repeat walk_at "rd"
  refine i_drawn hp fun x H1 t b nx k1 fx lo z zb => ?_
  repeat walk_at "rd"
  refine i_made k1.pot' fx lo (sz_mono z (by decide)) (sz_mono zb (by decide)) fun c H2 k2 r => ?_
  repeat walk_at "rd"
  refine i_for ?_
  repeat walk_at "rd"
  refine i_draw k2.pot' (by decide) (sz_lit (by decide)) fun n H3 n0 n1 k3 => ?_
  repeat walk_at "rd"
  refine i_rfor n0 (by omega) (RJ a.Ratio p H) ⟨x, c, t, b, _, _, _, _, rfl, by walk_at "dr", by walk_at "hp", by walk_at "hp", lo, z, zb⟩ ?_ ?_
  · clear fx r lo z zb k1 k2 k3 nx
    rintro i σ' H0 hi ⟨x, c, t, b, v3, v4, v5, v6, rfl, k0, fx, r, lo, z, zb⟩
    have hi2 : i ≤ 11 := by omega
    dsimp only [List.set]
    repeat walk_at "rd"
    refine i_drawn k0.pot' fun y H1 t2 b2 _ k1 fy lo2 z2 zb2 => ?_
    repeat walk_at "rd"
    refine i_draw k1.pot' (by decide) (sz_lit (by decide)) fun d H2 d0 d1 k2 => ?_
    repeat walk_at "rd"
    refine i_side k2.pot' (by walk_at "hp") lo2 (sz_mono z2 (by decide)) (sz_mono zb2 (by decide)) fun m H3 k3 n3 => ?_
    repeat walk_at "rd"
    have fx3 : FracAt H3 x t b := by walk_at "hp"
    have fy3 : FracAt H3 y t2 b2 := by walk_at "hp"
    have r3 : RatAt a.Ratio H3 c t b := by walk_at "hp"
    have kk : Dr p H H3 := by walk_at "dr"
    clear k0 k1 k2 k3 fx fy r
    have o1 : Ok4 t b := ⟨lo, sz_mono z (by omega), sz_mono zb (by omega)⟩
    have o2 : Ok4 t2 b2 := ⟨lo2, sz_mono z2 (by decide), sz_mono zb2 (by decide)⟩
    have pb := lo.pos
    have pb2 := lo2.pos
    have nd : dD t b t2 b2 ≠ 0 := Int.mul_ne_zero (Int.ne_of_gt pb) (Int.ne_of_gt pb2)
    have y1 : Sz 1300 t := sz_mono z (by omega)
    have y2 : Sz 1300 b := sz_mono zb (by omega)
    have y3 : Sz 1300 t2 := sz_mono z2 (by decide)
    have y4 : Sz 1300 b2 := sz_mono zb2 (by decide)
    have zd : Sz (30 + 96 * (i + 1)) (dD t b t2 b2) := sz_mono (sz_mul zb zb2) (by omega)
    refine ⟨RJ a.Ratio p H (i + 1), ?_, ?_⟩
    · repeat walk_at "rd"
      refine i_dec (fun h0 => ?_) (fun h0 => ?_)
      · repeat walk_at "rd"
        refine i_num r3.num n3 o1 o2 (.inl ⟨c, rfl⟩) fun r4 H4 _ s4 q4 => ?_
        repeat walk_at "rd"
        refine i_f2 (by walk_at "hp") (by walk_at "hp") o1 o2 trivial fun u5 H5 _ s5 g5 => ?_
        repeat walk_at "rd"
        exact ⟨u5, r4, _, _, _, _, _, _, rfl, by walk_at "dr", by walk_at "hp", by walk_at "hp", lo_nu nd, sz_nu nd (sz_mono (sz_add (sz_mono (sz_mul z zb2) (by omega)) (sz_mono (sz_mul z2 zb) (show 96 + (30 + 96 * i) ≤ 126 + 97 * i by omega))) (by omega)), sz_de nd zd⟩
      repeat walk_at "rd"
      refine i_dec (fun h1 => ?_) (fun h1 => ?_)
      · repeat walk_at "rd"
        refine i_num n3 r3.num o2 o1 (.inr ⟨c, rfl⟩) fun r4 H4 _ s4 q4 => ?_
        repeat walk_at "rd"
        refine i_f2 (by walk_at "hp") (by walk_at "hp") o2 o1 trivial fun u5 H5 _ s5 g5 => ?_
        repeat walk_at "rd"
        rw [dD_comm t b] at q4 g5
        exact ⟨u5, r4, _, _, _, _, _, _, rfl, by walk_at "dr", by walk_at "hp", by walk_at "hp", lo_nu nd, sz_nu nd (sz_mono (sz_sub (sz_mono (sz_mul z2 zb) (show 96 + (30 + 96 * i) ≤ 126 + 97 * i by omega)) (sz_mono (sz_mul z zb2) (by omega))) (by omega)), sz_de nd zd⟩
      repeat walk_at "rd"
      refine i_dec (fun h2 => ?_) (fun h2 => ?_)
      · repeat walk_at "rd"
        refine i_num r3.num n3 o1 o2 (.inl ⟨c, rfl⟩) fun r4 H4 _ s4 q4 => ?_
        repeat walk_at "rd"
        refine i_f2 (by walk_at "hp") (by walk_at "hp") o1 o2 trivial fun u5 H5 _ s5 g5 => ?_
        repeat walk_at "rd"
        exact ⟨u5, r4, _, _, _, _, _, _, rfl, by walk_at "dr", by walk_at "hp", by walk_at "hp", lo_nu nd, sz_nu nd (sz_mono (sz_mul z z2) (by omega)), sz_de nd zd⟩
      repeat walk_at "rd"
      refine i_andB (b := decide (V.int d = V.int 3)) (c := !decide (V.int t2 = V.int 0)) (fun R hR => ?_) (fun R hR => ?_) ?_
      · repeat walk_at "rd"
        exact hR
      · repeat walk_at "rd"
        exact hR
      refine i_band (fun h3 hn => ?_) ?_
      · have nt2 : t2 ≠ 0 := fun e => hn (by rw [e])
        have no : oD t b t2 b2 ≠ 0 := Int.mul_ne_zero (Int.ne_of_gt pb) nt2
        have c1 : CMulW t b2 := cmul_sz y1 y4
        have c2 : CMulW b t2 := cmul_sz y2 y3
        repeat walk_at "rd"
        refine i_over r3 o1 n3 o2 nt2 fun r4 H4 _ s4 q4 => ?_
        repeat walk_at "rd"
        · refine i_frac (u := t * b2) (d := b * t2) no (sz_mono (sz_mul y1 y4) (by decide)) (sz_mono (sz_mul y2 y3) (by decide)) fun u5 H5 _ s5 g5 => ?_
          repeat walk_at "rd"
          exact ⟨u5, r4, _, _, _, _, _, _, rfl, by walk_at "dr", by walk_at "hp", by walk_at "hp", lo_nu no, sz_nu no (sz_mono (sz_mul z zb2) (by omega)), sz_de no (sz_mono (sz_mul zb z2) (by omega))⟩
        all_goals assumption
      repeat walk_at "rd"
      refine i_andB (b := decide (V.int d = V.int 4)) (c := !decide (V.int t2 = V.int 0)) (fun R hR => ?_) (fun R hR => ?_) ?_
      · repeat walk_at "rd"
        exact hR
      · repeat walk_at "rd"
        exact hR
      refine i_band (fun h3 hn => ?_) ?_
      · have nt2 : t2 ≠ 0 := fun e => hn (by rw [e])
        obtain ⟨e1, e2, e3⟩ := sz_rest (t := t) pb pb2 nt2 zb z2 zb2
        repeat walk_at "rd"
        refine i_numG r3.num n3 o1 o2 (.inl ⟨c, rfl⟩) ⟨nt2, y1, y2, y3, y4⟩ fun r4 H4 _ s4 q4 => ?_
        repeat walk_at "rd"
        refine i_f2 (by walk_at "hp") (by walk_at "hp") o1 o2 ⟨nt2, y1, y2, y3, y4⟩ fun u5 H5 _ s5 g5 => ?_
        repeat walk_at "rd"
        exact ⟨u5, r4, _, _, _, _, _, _, rfl, by walk_at "dr", by walk_at "hp", by walk_at "hp", e3, sz_mono e1 (by omega), sz_mono e2 (by omega)⟩
      repeat walk_at "rd"
      refine i_andB (b := decide (V.int d = V.int 5)) (c := !decide (V.int t = V.int 0)) (fun R hR => ?_) (fun R hR => ?_) ?_
      · repeat walk_at "rd"
        exact hR
      · repeat walk_at "rd"
        exact hR
      refine i_band (fun h3 hn => ?_) ?_
      · have nt : t ≠ 0 := fun e => hn (by rw [e])
        obtain ⟨e1, e2, e3⟩ := sz_rest (t := t2) pb2 pb nt zb2 z zb
        repeat walk_at "rd"
        refine i_numG n3 r3.num o2 o1 (.inr ⟨c, rfl⟩) ⟨nt, y3, y4, y1, y2⟩ fun r4 H4 _ s4 q4 => ?_
        repeat walk_at "rd"
        refine i_f2 (by walk_at "hp") (by walk_at "hp") o2 o1 ⟨nt, y3, y4, y1, y2⟩ fun u5 H5 _ s5 g5 => ?_
        repeat walk_at "rd"
        exact ⟨u5, r4, _, _, _, _, _, _, rfl, by walk_at "dr", by walk_at "hp", by walk_at "hp", e3, sz_mono e1 (by omega), sz_mono e2 (by omega)⟩
      repeat walk_at "rd"
      have ln := lo.neg
      refine i_negR r3 o1 fun r4 H4 _ s4 q4 => ?_
      rw [ln.nu, ln.de] at q4
      repeat walk_at "rd"
      refine i_absR (by walk_at "hp") ⟨ln, sz_neg o1.zt, o1.zb⟩ fun r5 H5 _ s5 q5 => ?_
      rw [ln.absI.nu, ln.absI.de, show (if -t < 0 then - -t else -t) = (if t < 0 then -t else t) by split <;> split <;> omega] at q5
      have ou : Ok4 (if t < 0 then -t else t) b := ⟨lo.absI, sz_absI o1.zt, o1.zb⟩
      repeat walk_at "rd"
      refine i_num (RatAt.num (by walk_at "hp")) (RatAt.num (by walk_at "hp")) ou o1 (.inl ⟨r5, rfl⟩) fun r6 H6 _ s6 q6 => ?_
      repeat walk_at "rd"
      refine i_mkT2 fun u7 H7 _ hu7 s7 => ?_
      have g7 : FracAt H7 u7 (if t < 0 then -t else t) b := hu7
      repeat walk_at "rd"
      refine i_f2 (by walk_at "hp") (by walk_at "hp") ou o1 trivial fun u8 H8 _ s8 g8 => ?_
      repeat walk_at "rd"
      have nb : b ≠ 0 := Int.ne_of_gt pb
      have eS : sN (if t < 0 then -t else t) b t b = ((if t < 0 then -t else t) - t) * b := (Int.sub_mul ..).symm
      obtain ⟨e1, e2⟩ := nu_scale (x := (if t < 0 then -t else t) - t) nb nb
      have eD : dD (if t < 0 then -t else t) b t b = b * b := rfl
      rw [eS, eD, e1, e2] at q6 g8
      exact ⟨u8, r6, _, _, _, _, _, _, rfl, by walk_at "dr", by walk_at "hp", by walk_at "hp", lo_nu nb, sz_nu nb (sz_mono (sz_sub (sz_absI z) z) (by omega)), sz_de nb (sz_mono zb (by omega))⟩
    · clear kk fx3 fy3 r3 n3 o1 o2 y1 y2 y3 y4 zd nd pb pb2 lo z zb lo2 z2 zb2
      rintro σ' H4 ⟨x, c, t, b, v3, v4, v5, v6, rfl, k0, fx, r, lo, z, zb⟩
      have y1 : Sz 1900 t := sz_mono z (by omega)
      have y2 : Sz 1900 b := sz_mono zb (by omega)
      repeat walk_at "rd"
      refine i_or ?_
      repeat walk_at "rd"
      refine i_mkL1 fun l5 H5 _ hl5 s5 => ?_
      repeat walk_at "rd"
      refine i_told1 hl5 (by walk_at "hp") fun l6 H6 _ s6 hl6 => ?_
      repeat walk_at "rd"
      refine i_mkL1 fun l7 H7 _ hl7 s7 => ?_
      repeat walk_at "rd"
      refine i_neFr (by walk_at "hp") (frl1 hl7 (by walk_at "hp")) ?_
      repeat walk_at "rd"
      refine i_strR (by walk_at "hp") y1 y2 ?_
      repeat walk_at "rd"
      refine i_text (by walk_at "hp") y1 y2 ?_
      refine i_ne_s rfl ?_
      rw [decide_eq_true rfl]
      repeat walk_at "rd"
      exact ⟨x, c, t, b, _, _, _, _, rfl, by walk_at "dr", by walk_at "hp", by walk_at "hp", lo, z, zb⟩
  · rintro σ' H4 ⟨x, c, t, b, v3, v4, v5, v6, rfl, k0, fx, r, lo, z, zb⟩
    repeat walk_at "rd"
    exact q _ k0
end Lw

namespace Lw
open PySem PySem.Spec PyProof.Rows L2 Ly
local macro_rules | `(tactic| walk_at "rd") => `(tactic| first
  | ((with_reducible refine' i_var ?hv ?_); (case hv => exact rfl))
  | with_reducible refine i_c ?_
  | with_reducible refine i_op ?_
  | with_reducible refine i_cons ?_
  | with_reducible refine i_nil ?_
  | with_reducible refine i_cb ?_
  | with_reducible refine i_call ?_
  | with_reducible refine i_I0 ?_
  | with_reducible refine i_add_i ?_
  | with_reducible refine i_sub_i ?_
  | with_reducible refine i_md_i (by first | decide | assumption) ?_
  | ((with_reducible refine' i_md_i ?c ?_); rotate_left)
  | ((with_reducible refine' i_mul_i ?c ?_); rotate_left)
  | with_reducible refine i_fd_i (by decide) ?_
  | ((with_reducible refine' i_fd_i ?c ?_); rotate_left)
  | with_reducible refine i_int ?_
  | with_reducible refine i_abs ?_
  | with_reducible refine i_max2 ?_
  | with_reducible refine i_min2 ?_
  | with_reducible refine i_gcd ?_
  | with_reducible refine i_seq ?_
  | with_reducible refine i_if ?_
  | with_reducible refine i_asg ?_
  | with_reducible refine i_ret ?_
  | with_reducible refine i_drop ?_
  | with_reducible refine i_next ?_
  | with_reducible refine i_un ?_
  | with_reducible refine i_U ?_
  | ((with_reducible refine i_gname ?_); dsimp only [List.set])
  | with_reducible refine i_test ?_
  | with_reducible refine i_not ?_
  | with_reducible refine i_tb ?_
  | with_reducible refine i_andV ?_
  | with_reducible refine i_orV ?_
  | with_reducible refine i_notV ?_
  | with_reducible refine i_ifx ?_
  | with_reducible refine i_ext ?_
  | with_reducible refine i_exf ?_
  | with_reducible refine i_exn ?_
  | with_reducible refine i_itt ?_
  | with_reducible refine i_itf ?_
  | with_reducible refine i_gsub ?_
  | with_reducible refine i_nt ?_
  | with_reducible refine i_tup ?_
  | with_reducible refine i_lst ?_
  | with_reducible refine i_nf ?_
  | with_reducible refine i_isint ?_
  | ((with_reducible refine' i_top ?r ?_); (case r => walk_at "hp"))
  | ((with_reducible refine' i_bot ?r ?_); (case r => walk_at "hp"))
  | with_reducible refine i_fld ?_
  | with_reducible refine i_sfld ?_
  | with_reducible refine i_pp ?_
  | with_reducible refine i_meth ?_
  | with_reducible refine i_smeth ?_
  | with_reducible refine i_make ?_
  | with_reducible refine i_sl ?_
  | with_reducible refine i_noPart ?_
  | with_reducible refine i_part ?_
  | with_reducible refine i_smethK ?_
  | with_reducible refine i_sk1 ?_
  | with_reducible refine i_makeK ?_
  | with_reducible refine i_methK ?_
  | with_reducible refine i_mk11 ?_
  | ((with_reducible refine' i_rmk ?r ?h1 ?h2 ?_); (case r => walk_at "hp"); (case h1 => decide +kernel); (case h2 => decide +kernel))
  | with_reducible refine i_tpar ?_
  | ((with_reducible refine i_rpar ?_); dsimp only [List.set])
  | with_reducible refine i_eq_s rfl ?_
  | with_reducible refine i_ne_s rfl ?_
  | ((with_reducible refine' i_rtop ?r ?c ?n ?_); (case r => walk_at "hp"); (case c => assumption); (case n => assumption))
  | ((with_reducible refine' i_rbot ?r ?c ?n ?_); (case r => walk_at "hp"); (case c => assumption); (case n => assumption))
  | ((with_reducible refine' i_rpp ?r ?_); (case r => walk_at "hp"))
  | ((with_reducible refine' i_rmeth ?r ?h1 ?h2 ?_); (case r => walk_at "hp"); (case h1 => decide +kernel); (case h2 => decide +kernel))
  | ((with_reducible refine' i_ix_l ?hp ?ha ?_); (case hp => walk_at "hp"); (case ha => exact rfl))
  | ((with_reducible refine' i_len_l ?hp ?_); (case hp => walk_at "hp"))
  | ((with_reducible refine' i_ix_f0 ?hp ?_); (case hp => walk_at "hp"))
  | ((with_reducible refine' i_ix_f1 ?hp ?_); (case hp => walk_at "hp"))
  | ((with_reducible refine' i_ix_t ?hp ?ha ?_); (case hp => walk_at "hp"); (case ha => exact rfl)))
local macro_rules | `(tactic| walk_at "hp") => `(tactic| first
  | assumption
  | exact upd_same
  | exact SqL.of (by assumption)
  | (refine' Dr.tup (by assumption) ?hq; (case hq => walk_at "hp"))
  | (refine' FrL.same (by assumption) ?hq; (case hq => walk_at "hp"))
  | (refine' FracAt.same (by assumption) ?hq; (case hq => walk_at "hp"))
  | (refine' FracAt.nl (by assumption) ?hq; (case hq => walk_at "hp"))
  | (refine' RatAt.nl (by assumption) ?hq; (case hq => walk_at "hp"))
  | (refine' Num.nl (by assumption) ?hq; (case hq => walk_at "hp"))
  | (refine' FracAt.pk (by assumption) ?hq; (case hq => walk_at "hp"))
  | (refine' RatAt.pk (by assumption) ?hq; (case hq => walk_at "hp"))
  | (refine' Num.pk (by assumption) ?hq; (case hq => walk_at "hp"))
  | (refine' Dr.keep (by assumption) _ _ (by assumption) ?hq; (case hq => walk_at "hp"))
  | (refine' (show Same _ _ by assumption) _ _ ?hq; (case hq => walk_at "hp"))
  | (refine' RatAt.same (by assumption) ?hq; (case hq => walk_at "hp"))
  | (refine' Num.same (by assumption) ?hq; (case hq => walk_at "hp")))
local macro_rules | `(tactic| walk_at "sm") => `(tactic| first
  | assumption
  | exact Same.refl _
  | (refine' Same.kl (by assumption) (by assumption) ?aa; (case aa => walk_at "sm"))
  | (refine' Same.trans ?aa (by assumption); (case aa => walk_at "sm")))
local macro_rules | `(tactic| walk_at "dr") => `(tactic| first
  | assumption
  | (refine' Dr.same ?aa (by assumption); (case aa => walk_at "dr"))
  | (refine' Dr.trans ?aa (by assumption); (case aa => walk_at "dr")))

variable {W : Wd} {a : Ad}
def J2 (C p x y : Addr) (o m : V) (t b t2 b2 : Int) (H : Hp) (v1 : Option V) (_ : Nat) (σ : L2.St) (H' : Hp) : Prop := ∃ v2 : Option V, σ = [some (.ref p), v1, v2, some (.ref x), some (.ref y), some o, some m] ∧ Dr p H H' ∧ Giv C H' o m x y t b t2 b2
theorem Giv.dr {C p : Addr} {H H' : Hp} {o m : V} {x y : Addr} {t b t2 b2 : Int} (s : Dr p H H') (g : Giv C H o m x y t b t2 b2) : Giv C H' o m x y t b t2 b2 := by
  obtain ⟨c, e, r⟩ := g.one
  exact ⟨⟨c, e, r.pk s⟩, g.mate.pk s, g.f1.pk s, g.f2.pk s, g.lo, g.lo2, g.z, g.zb, g.z2, g.zb2⟩
theorem k_law_right (T : Txt W.K W.mg a) : Cl W 16 "_law_right" spReg := by
  refine cl_of' T.d_law_right sc_law_right bd_law_right (fun vs H Q E ⟨p, h, _⟩ => by rw [h]; rfl) fun f cdv A outer s0 H vs Q E hr h => ?_
  obtain ⟨p, rfl, hp, q⟩ := h
  refine ⟨_, (pss_cons (ps_for PassesOwn.never rfl (pi_range1 rfl T.b_range (pa_cons pe_int pa_nil)) (pg_name (i := 1) sc_law_right.nd rfl (Or.inl rfl)) (pss_cons (ps_par (i := 3) (j := 4) (by rfl) sc_law_right.nd rfl rfl (by decide) rfl rfl (pa_cons (pe_cl (k_law_drawn T) hr (by decide) rfl (pa_cons (pv 0) pa_nil)) (pa_cons (pe_cl (k_law_drawn T) hr (by decide) rfl (pa_cons (pv 0) pa_nil)) pa_nil)) (by rfl)) (Evl.pss_cut (ps_if (pt_cmpR (r := rEqU W.K) (op_eqU hr.units) (pe_cl (k_law_draw T) hr (by decide) rfl (pa_cons (pv 0) (pa_cons pe_int pa_nil))) pe_int (nomark _)) (pss_one (ps_set (i := 4) sc_law_right.nd rfl (Or.inl rfl) (pv 3))) pss_nil) (pss_cons (ps_par (i := 5) (j := 6) (by rfl) sc_law_right.nd rfl rfl (by decide) rfl rfl (pa_cons (pe_cl (k_law_made T) hr (by decide) rfl (pa_cons (pv 0) (pa_cons (pv 3) pa_nil))) (pa_cons (pe_cl (k_law_side T) hr (by decide) rfl (pa_cons (pv 0) (pa_cons (pv 4) pa_nil))) pa_nil)) (by rfl)) (pss_one (ps_for PassesOwn.never rfl (pi_range1 rfl T.b_range (pa_cons pe_int pa_nil)) (pg_name (i := 2) sc_law_right.nd rfl (Or.inl rfl)) (pss_cons (ps_if (PW.pt (pw_or (pt_not (pt_val (pe_cl (k_law_sums_right T) hr (by decide) rfl (pa_cons (pv 5) (pa_cons (pv 6) (pa_cons (pv 3) (pa_cons (pv 4) pa_nil))))))) (pw_or1 (pt_not (pt_val (pe_cl (k_law_quotients_right T) hr (by decide) rfl (pa_cons (pv 5) (pa_cons (pv 6) (pa_cons (pv 3) (pa_cons (pv 4) pa_nil)))))))))) (pss_one (ps_ret pe_bl)) pss_nil) (pss_cons (ps_if (PW.pt (pw_or (pt_not (pt_val (pe_cl (k_law_order_right T) hr (by decide) rfl (pa_cons (pv 5) (pa_cons (pv 6) (pa_cons (pv 3) (pa_cons (pv 4) pa_nil))))))) (pw_or1 (pt_not (pt_val (pe_cl (k_law_in_place_right T) hr (by decide) rfl (pa_cons (pv 5) (pa_cons (pv 6) (pa_cons (pv 3) (pa_cons (pv 4) pa_nil)))))))))) (pss_one (ps_ret pe_bl)) pss_nil) (pss_one (ps_if (PW.pt (pw_or (pt_not (pt_val (pe_cl (k_law_alone_right T) hr (by decide) rfl (pa_cons (pv 5) (pa_cons (pv 3) pa_nil))))) (pw_or1 (pt_not (pt_val (pe_cl (k_law_alone_right T) hr (by decide) rfl (pa_cons (pe_sm (sm_of T) hr (by decide) (pe_gn (v := .ref a.Ratio) (by rfl) T.o_Ratio.mg rfl) (pa_cons (pv 6) pa_nil)) (pa_cons (pv 4) pa_nil)))))))) (pss_one (ps_ret pe_bl)) pss_nil)))))))))) (pss_one (ps_ret (pe_cl (k_law_register_right T) hr (by decide) rfl (pa_cons (pv 0) pa_nil))))), ?_⟩
  refine i_start (σ' := [some (V.ref p), none, none, none, none, none, none]) rfl ?_
  repeat walk_at "rd"
  refine i_for ?_
  repeat walk_at "rd"
  refine i_rfor (by decide) (by decide) (fun i σ' H' => ∃ v1 v2 v3 v4 v5 v6 : Option V, σ' = [some (.ref p), v1, v2, v3, v4, v5, v6] ∧ Dr p H H') ⟨_, _, _, _, _, _, rfl, Dr.refl hp⟩ ?_ ?_
  · rintro i σ' H0 hi ⟨v1, v2, v3, v4, v5, v6, rfl, k0⟩
    dsimp only [List.set]
    repeat walk_at "rd"
    refine i_drawn k0.pot' fun x H1 t b _ k1 fx lo z zb => ?_
    repeat walk_at "rd"
    refine i_drawn k1.pot' fun y H2 t2 b2 _ k2 fy lo2 z2 zb2 => ?_
    repeat walk_at "rd"
    refine ⟨fun σ' H3 => ∃ (y : Addr) (t2 b2 : Int) (v5 v6 : Option V), σ' = [some (.ref p), some (.int i), v2, some (.ref x), some (.ref y), v5, v6] ∧ Dr p H H3 ∧ FracAt H3 x t b ∧ FracAt H3 y t2 b2 ∧ Lo t2 b2 ∧ Sz 96 t2 ∧ Sz 30 b2, ?_, ?_⟩
    · repeat walk_at "rd"
      refine i_draw k2.pot' (by decide) (sz_lit (by decide)) fun d H3 d0 d1 k3 => ?_
      repeat walk_at "rd"
      refine i_dec (fun h0 => ?_) (fun h0 => ?_)
      · repeat walk_at "rd"
        exact ⟨x, t, b, _, _, rfl, by walk_at "dr", by walk_at "hp", by walk_at "hp", lo, z, zb⟩
      · repeat walk_at "rd"
        exact ⟨y, t2, b2, _, _, rfl, by walk_at "dr", by walk_at "hp", by walk_at "hp", lo2, z2, zb2⟩
    · clear fx fy lo2 z2 zb2 k0 k1 k2
      rintro σ' H3 ⟨y, t2, b2, v5, v6, rfl, k3, fx, fy, lo2, z2, zb2⟩
      have y1 : Sz 1300 t := sz_mono z (by decide)
      have y2 : Sz 1300 b := sz_mono zb (by decide)
      have y3 : Sz 1300 t2 := sz_mono z2 (by decide)
      have y4 : Sz 1300 b2 := sz_mono zb2 (by decide)
      repeat walk_at "rd"
      refine i_made k3.pot' fx lo (sz_mono z (by decide)) (sz_mono zb (by decide)) fun c H4 k4 r => ?_
      repeat walk_at "rd"
      refine i_side k4.pot' (by walk_at "hp") lo2 (sz_mono z2 (by decide)) (sz_mono zb2 (by decide)) fun m H5 k5 n => ?_
      repeat walk_at "rd"
      have gv : Giv a.Ratio H5 (.ref c) m x y t b t2 b2 := ⟨⟨c, rfl, by walk_at "hp"⟩, n, by walk_at "hp", by walk_at "hp", lo, lo2, y1, y2, y3, y4⟩
      have kk : Dr p H H5 := by walk_at "dr"
      clear k3 k4 k5 fx fy r n
      refine i_for ?_
      repeat walk_at "rd"
      refine i_rfor (by decide) (by decide) (J2 a.Ratio p x y (.ref c) m t b t2 b2 H (some (.int i))) ⟨_, rfl, kk, gv⟩ ?_ ?_
      · clear gv kk
        rintro j σ' H6 hj ⟨v7, rfl, k6, g6⟩
        dsimp only [List.set]
        have chk : ∀ {H' : Hp} {R : VK}, Giv a.Ratio H' (.ref c) m x y t b t2 b2 → (∀ H2, Same H' H2 → Giv a.Ratio H2 (.ref c) m x y t b t2 b2 → R (.bl true) H2) → spChk a.Ratio [.ref c, m, .ref x, .ref y] H' R E0 := fun g h => ⟨_, m, x, y, t, b, t2, b2, rfl, g, fun H2 s => h H2 s (g.same s)⟩
        repeat walk_at "rd"
        refine i_or ?_
        repeat walk_at "rd"
        refine chk g6 fun H7 s7 g7 => ?_
        repeat walk_at "rd"
        refine chk g7 fun H8 s8 g8 => ?_
        repeat walk_at "rd"
        refine i_or ?_
        repeat walk_at "rd"
        refine chk g8 fun H9 s9 g9 => ?_
        repeat walk_at "rd"
        refine chk g9 fun H10 s10 g10 => ?_
        repeat walk_at "rd"
        refine i_or ?_
        repeat walk_at "rd"
        obtain ⟨c', ec, r10⟩ := g10.one
        cases ec
        refine ⟨c, x, t, b, rfl, r10, g10.f1, lo, y1, y2, fun H11 s11 => ?_⟩
        have g11 := g10.same s11
        repeat walk_at "rd"
        refine i_of g11.mate (sz_mono y3 (by decide)) fun d H12 s12 r12 => ?_
        have g12 := g11.same s12
        repeat walk_at "rd"
        refine ⟨d, y, t2, b2, rfl, r12, g12.f2, lo2, y3, y4, fun H13 s13 => ?_⟩
        repeat walk_at "rd"
        exact ⟨_, rfl, by walk_at "dr", g12.same s13⟩
      · rintro σ' H6 ⟨v7, rfl, k6, g6⟩
        repeat walk_at "rd"
        exact ⟨_, _, _, _, _, _, rfl, k6⟩
  · rintro σ' H0 ⟨v1, v2, v3, v4, v5, v6, rfl, k0⟩
    repeat walk_at "rd"
    exact ⟨p, rfl, k0.pot', fun H1 k1 => q _ (k0.trans k1)⟩
end Lw

namespace Lw
open PySem PySem.Spec PyProof.Rows L2 Ly
local macro_rules | `(tactic| walk_at "rd") => `(tactic| first
  | ((with_reducible refine' i_var ?hv ?_); (case hv => exact rfl))
  | with_reducible refine i_c ?_
  | with_reducible refine i_op ?_
  | with_reducible refine i_cons ?_
  | with_reducible refine i_nil ?_
  | with_reducible refine i_cb ?_
  | with_reducible refine i_call ?_
  | with_reducible refine i_I0 ?_
  | with_reducible refine i_add_i ?_
  | with_reducible refine i_sub_i ?_
  | with_reducible refine i_md_i (by first | decide | assumption) ?_
  | ((with_reducible refine' i_md_i ?c ?_); rotate_left)
  | ((with_reducible refine' i_mul_i ?c ?_); rotate_left)
  | with_reducible refine i_fd_i (by decide) ?_
  | ((with_reducible refine' i_fd_i ?c ?_); rotate_left)
  | with_reducible refine i_int ?_
  | with_reducible refine i_abs ?_
  | with_reducible refine i_max2 ?_
  | with_reducible refine i_min2 ?_
  | with_reducible refine i_gcd ?_
  | with_reducible refine i_seq ?_
  | with_reducible refine i_if ?_
  | with_reducible refine i_asg ?_
  | with_reducible refine i_ret ?_
  | with_reducible refine i_drop ?_
  | with_reducible refine i_next ?_
  | with_reducible refine i_un ?_
  | with_reducible refine i_U ?_
  | ((with_reducible refine i_gname ?_); dsimp only [List.set])
  | with_reducible refine i_test ?_
  | with_reducible refine i_not ?_
  | with_reducible refine i_tb ?_
  | with_reducible refine i_andV ?_
  | with_reducible refine i_orV ?_
  | with_reducible refine i_notV ?_
  | with_reducible refine i_ifx ?_
  | with_reducible refine i_ext ?_
  | with_reducible refine i_exf ?_
  | with_reducible refine i_exn ?_
  | with_reducible refine i_itt ?_
  | with_reducible refine i_itf ?_
  | with_reducible refine i_gsub ?_
  | with_reducible refine i_nt ?_
  | with_reducible refine i_tup ?_
  | with_reducible refine i_lst ?_
  | with_reducible refine i_nf ?_
  | with_reducible refine i_isint ?_
  | ((with_reducible refine' i_top ?r ?_); (case r => walk_at "hp"))
  | ((with_reducible refine' i_bot ?r ?_); (case r => walk_at "hp"))
  | with_reducible refine i_fld ?_
  | with_reducible refine i_sfld ?_
  | with_reducible refine i_pp ?_
  | with_reducible refine i_meth ?_
  | with_reducible refine i_smeth ?_
  | with_reducible refine i_make ?_
  | with_reducible refine i_sl ?_
  | with_reducible refine i_noPart ?_
  | with_reducible refine i_part ?_
  | with_reducible refine i_smethK ?_
  | with_reducible refine i_sk1 ?_
  | with_reducible refine i_makeK ?_
  | with_reducible refine i_methK ?_
  | with_reducible refine i_mk11 ?_
  | ((with_reducible refine' i_rmk ?r ?h1 ?h2 ?_); (case r => walk_at "hp"); (case h1 => decide +kernel); (case h2 => decide +kernel))
  | with_reducible refine i_tpar ?_
  | ((with_reducible refine i_rpar ?_); dsimp only [List.set])
  | with_reducible refine i_eq_s rfl ?_
  | with_reducible refine i_ne_s rfl ?_
  | ((with_reducible refine' i_rtop ?r ?c ?n ?_); (case r => walk_at "hp"); (case c => assumption); (case n => assumption))
  | ((with_reducible refine' i_rbot ?r ?c ?n ?_); (case r => walk_at "hp"); (case c => assumption); (case n => assumption))
  | ((with_reducible refine' i_rpp ?r ?_); (case r => walk_at "hp"))
  | ((with_reducible refine' i_rmeth ?r ?h1 ?h2 ?_); (case r => walk_at "hp"); (case h1 => decide +kernel); (case h2 => decide +kernel))
  | ((with_reducible refine' i_ix_l ?hp ?ha ?_); (case hp => walk_at "hp"); (case ha => exact rfl))
  | ((with_reducible refine' i_len_l ?hp ?_); (case hp => walk_at "hp"))
  | ((with_reducible refine' i_ix_f0 ?hp ?_); (case hp => walk_at "hp"))
  | ((with_reducible refine' i_ix_f1 ?hp ?_); (case hp => walk_at "hp"))
  | ((with_reducible refine' i_ix_t ?hp ?ha ?_); (case hp => walk_at "hp"); (case ha => exact rfl)))
local macro_rules | `(tactic| walk_at "hp") => `(tactic| first
  | assumption
  | exact upd_same
  | exact SqL.of (by assumption)
  | (refine' Dr.tup (by assumption) ?hq; (case hq => walk_at "hp"))
  | (refine' FrL.same (by assumption) ?hq; (case hq => walk_at "hp"))
  | (refine' FracAt.same (by assumption) ?hq; (case hq => walk_at "hp"))
  | (refine' FracAt.nl (by assumption) ?hq; (case hq => walk_at "hp"))
  | (refine' RatAt.nl (by assumption) ?hq; (case hq => walk_at "hp"))
  | (refine' Num.nl (by assumption) ?hq; (case hq => walk_at "hp"))
  | (refine' FracAt.pk (by assumption) ?hq; (case hq => walk_at "hp"))
  | (refine' RatAt.pk (by assumption) ?hq; (case hq => walk_at "hp"))
  | (refine' Num.pk (by assumption) ?hq; (case hq => walk_at "hp"))
  | (refine' Dr.keep (by assumption) _ _ (by assumption) ?hq; (case hq => walk_at "hp"))
  | (refine' (show Same _ _ by assumption) _ _ ?hq; (case hq => walk_at "hp"))
  | (refine' RatAt.same (by assumption) ?hq; (case hq => walk_at "hp"))
  | (refine' Num.same (by assumption) ?hq; (case hq => walk_at "hp")))
local macro_rules | `(tactic| walk_at "sm") => `(tactic| first
  | assumption
  | exact Same.refl _
  | (refine' Same.kl (by assumption) (by assumption) ?aa; (case aa => walk_at "sm"))
  | (refine' Same.trans ?aa (by assumption); (case aa => walk_at "sm")))
local macro_rules | `(tactic| walk_at "dr") => `(tactic| first
  | assumption
  | (refine' Dr.same ?aa (by assumption); (case aa => walk_at "dr"))
  | (refine' Dr.trans ?aa (by assumption); (case aa => walk_at "dr")))

variable {W : Wd} {a : Ad}
def spLaw (K : PySem.W.Frag) : Sp := fun vs H Q _ => ∃ (a : Addr) (ns : List Int), vs = [.ref a] ∧ SqL K H a (ns.map V.int) ∧ ns.length ≤ 63 ∧ ∀ H', Q (.bl true) H'
theorem bo_law (T : Txt W.K W.mg a) : BodyOk W 16 N_law "law" s_law (spLaw W.K) := by
  intro f cdv A outer s0 H vs Q E hr h
  obtain ⟨l, ns, rfl, hs, hl, q⟩ := h
  refine ⟨_, (pss_one (ps_ret (pe_callB (r := rAll W.K) (cr_all rfl) (by rfl) T.b_all (by decide +kernel) (pa_cons (pe_lc (own := [("_law_k", 1)]) (g := (gName 1)) (tt := tYes) rfl sc_law.nd (pi_range1 rfl T.b_range (pa_cons (pe_callB (call_max2U rfl) (by rfl) T.b_max (by decide +kernel) (pa_cons pe_int (pa_cons (pe_callB (call_min2U rfl) (by rfl) T.b_min (by decide +kernel) (pa_cons pe_int (pa_cons (pe_callB (r := Ly.rLen W.K) call_lenU (by rfl) T.b_len (by decide +kernel) (pa_cons (pv 0) pa_nil)) pa_nil))) pa_nil))) pa_nil)) (blkOk_by (N := N_law) (sc := defScope s_law) (by decide +kernel)) (fun _ _ _ _ _ => (pg_name (i := 1) sc_law.nd rfl (Or.inl rfl))) (fun _ _ _ _ _ => pts_nil) (fun _ _ _ _ _ => (pe_cl (k_law_right T) hr (by decide) rfl (pa_cons (pe_cl (k_law_pot T) hr (by decide) rfl (pa_cons (pv 0) (pa_cons (pv 1) pa_nil))) pa_nil)))) pa_nil)))), ?_⟩
  refine i_start (σ' := [some (V.ref l), none]) rfl ?_
  refine i_ret ?_
  refine i_cb ?_
  refine i_cons ?_
  have hlen : (ns.map V.int).length = ns.length := List.length_map ..
  refine i_lcR (m := if (if ((ns.map V.int).length : Int) < 4 then ((ns.map V.int).length : Int) else 4) > 1 then (if ((ns.map V.int).length : Int) < 4 then ((ns.map V.int).length : Int) else 4) else 1) (fun i H' v => v = V.bl true) (fun Q' hQ => ?_) ?_ ?_ (fun _ _ _ _ _ g => g) (fun x => rfl) ?_ ?_
  · repeat walk_at "rd"
    refine i_len_L hs ?_
    repeat walk_at "rd"
    exact hQ
  · split <;> omega
  · split
    · split <;> omega
    · decide
  · intro i H' Q' hi s q'
    have hi2 : (i : Int) < 100 := by
      have : (i : Int) < 5 := by
        refine Int.lt_of_lt_of_le hi ?_
        split
        · split <;> omega
        · decide
      omega
    dsimp only [List.map, wipe, List.set]
    repeat walk_at "rd"
    refine ⟨l, ns, (i : Int), rfl, s.seq hs, by omega, hi2, fun p H1 np s1 hp => ?_⟩
    repeat walk_at "rd"
    refine ⟨p, rfl, hp, fun H2 k2 => q' _ H2 (fun c o e => k2.keep c o (ne_of_none e np) (s1 _ _ e)) rfl⟩
  · intro r H' ys nr s hr' hy g
    repeat walk_at "rd"
    have ey : ys = (List.replicate ys.length true).map V.bl := by
      apply List.ext_getElem?
      intro i
      rw [List.getElem?_map]
      rcases Nat.lt_or_ge i ys.length with h | h
      · rw [List.getElem?_eq_getElem h, g i ys[i] (List.getElem?_eq_getElem h)]
        simp [h]
      · simp [h]
    refine ⟨r, List.replicate ys.length true, rfl, ?_, ?_⟩
    · rw [← ey]
      exact SqL.of hr'
    · rw [show (List.replicate ys.length true).all id = true by simp]
      exact q H'
theorem fin {l : PySem.W.OpenLaw} {w : World} {K : PySem.W.Frag} {h : Heap} {mg : Str → Option Value} {fa R : Addr} (X : K.In h) (G : h.Ns mainGlobals mg) (hfa : mg "law" = some (.ref fa)) (T : Txt K mg ⟨R⟩) :
    ∃ fd : FuncData, (∀ (s : Shared) (v : Value), BindsTo s fd ⟨[v], []⟩ [("_law_script", v)]) ∧ ∀ base : Heap, K.In base → base.Ns mainGlobals mg → FnOk l.prog w K mg base CX0 40 fa fd ["_law_script"] (spLaw K) := by
  obtain ⟨f, fd, F, hm⟩ := T.d_law.ex
  have e := hfa.symm.trans hm
  cases e
  obtain ⟨oc, od, kV, doc, pm, an, cdv, ct, osl, rfl, lk, hc⟩ := F.ex
  refine ⟨PySem.W.fnOf "law" "law" (defArgs s_law) (defBody s_law) (defScope s_law) .none kV doc pm an cdv ct, fun s v => .of_eq rfl, fun base _ _ => ?_⟩
  have F' := Fun.ok (P := l.prog) (w := w) (mg := mg) (base := base) F sc_law (fun vs H Q E ⟨a, ns, h, _⟩ => by rw [h]; rfl) fun cdv A outer s H vs Q E hr h => bo_law (W := ⟨l.prog, w, K, mg, base⟩) (a := ⟨R⟩) T fa cdv A outer s H vs Q E hr h
  exact F'.mono (by decide)
theorem walk {l : PySem.W.OpenLaw} {q : Program} {loose : List Str} {XP : (Str → Option Value) → Heap → Prop} {YP : World → Heap → Prop} {d : DefRec} {K : Params → PySem.W.Frag} (hn : l.most = some 63) (hdf : d.params.defaults = [])
    (hY : ∀ (w : World) (h : Heap), YP w h → (K w.params).In h)
    (F : ∀ (w : World) (mg : Str → Option Value) (fa : Addr) (h : Heap), (K w.params).In h → h.Ns mainGlobals mg → mg d.name = some (.ref fa) →
      ∃ fd : FuncData, (∀ (s : Shared) (u : Value), BindsTo s fd ⟨[u], []⟩ [("_law_script", u)]) ∧ ∀ base : Heap, (K w.params).In base → base.Ns mainGlobals mg → FnOk l.prog w (K w.params) mg base CX0 40 fa fd ["_law_script"] (spLaw (K w.params))) :
    PySem.W.WalkO q loose XP YP l.row.toRowW d [] (fun f vs => PySem.call f vs) :=
  L2.walk_of (n := 63) (k := 40) (x := "_law_script") (CX := fun _ => CX0) (sp := fun w => spLaw (K w.params)) hn (by decide) hdf ⟨rfl, by decide, by decide⟩ hY F (fun _ _ a ns hl _ hS => ⟨a, ns, rfl, hS, hl, fun _ => rfl⟩) fun _ _ _ _ _ z => z
end Lw

open PySem PySem.W PyProof.Rows
set_option maxRecDepth 100000 in
set_option maxHeartbeats 0 in
theorem PySem.Challenge.cw_evenloads_k11_whole_ratios_by_own_fracti_holds : PySem.Challenge.rw_evenloads_k11_whole_ratios_by_own_fracti.Holds := by
  w_on; o_law; k_head; (case hw => w_witness2)
  k_fill
  refine Lw.walk (l := PySem.Challenge.rw_evenloads_k11_whole_ratios_by_own_fracti) rfl rfl (fun w h Y => PySem.W.kIn_of Y) ?F
  case F =>
    intro w mg fa h KX G hmg
    refine' Lw.fin KX G hmg ?T
    case T =>
    refine' Lw.Txt.mk ?o_Ratio ?n_Ratio_top ?n_Ratio_bottom ?d_Ratio_init ?d_Ratio_of ?d_Ratio_read ?d_Ratio_top ?d_Ratio_bottom ?d_Ratio_add ?d_Ratio_radd ?d_Ratio_sub ?d_Ratio_rsub ?d_Ratio_mul ?d_Ratio_rmul ?d_Ratio_floordiv ?d_Ratio_rfloordiv ?d_Ratio_mod ?d_Ratio_rmod ?d_Ratio_neg ?d_Ratio_abs ?d_Ratio_over ?d_Ratio_compare ?d_Ratio_floor ?d_Ratio_ceiling ?d_Ratio_eq ?d_Ratio_str ?d_Ratio_repr ?d_written ?d_loosely_read ?d_is_plain_count ?d_law_pot ?d_law_draw ?d_law_pick ?d_law_frac ?d_law_drawn ?d_law_text ?d_law_made ?d_law_side ?d_law_plus ?d_law_less ?d_law_times ?d_law_floor ?d_law_rest ?d_law_told ?d_law_are_integers ?d_law_sums_right ?d_law_quotients_right ?d_law_alone_right ?d_law_order_right ?d_law_in_place_right ?d_law_register_right ?d_law_right ?d_law ?x_Ratio_ne ?x_Ratio_iadd ?x_Ratio_isub ?x_Ratio_imul ?x_Ratio_ifloordiv ?x_Ratio_imod ?b_abs ?b_len ?b_divmod ?b_max ?b_min ?b_all ?b_int ?b_str ?b_bool ?b_isinstance ?b_range ?b_repr ?g_gcd
    case o_Ratio =>
      refine' Ly.OwnC.mk (PySem.W.mg_of KX G ?aC) ⟨?pg, ?hd, ?po, ?sa⟩ ?kp ?sf (Ly.m2_mk ?m2 ?m3) ?sI ?sJ ?sO ?nI Ly.kO_mk (Ly.kI_mk ?k1 ?k2 ?k3) ?cl ?mo
      (case aC => k_is); (case pg => k_is); (case hd => k_is); (case po => k_is); (case sa => k_is); (case kp => k_is); (case sf => k_is); (case m2 => k_is)
      (case m3 => rfl)
      (case sI => k_is); (case sJ => k_is); (case sO => k_is); (case nI => k_is); (case k1 => k_is); (case k2 => k_is); (case k3 => k_is); (case cl => k_is); (case mo => k_is)
    case n_Ratio_top =>
      refine' Ly.noattr_mk ?a
      (case a => k_is)
    case n_Ratio_bottom =>
      refine' Ly.noattr_mk ?a
      (case a => k_is)
    case d_Ratio_init =>
      refine' Ly.gi_mk1 ?mk ?a ?i1 ?kc ?l ?lT ?oT ?c ?k
      (case mk => k_is); (case a => k_is); (case i1 => k_is); (case kc => k_is); (case l => k_is); (case lT => k_is)
      (case oT => rfl)
      (case c => k_is); (case k => k_is)
    case d_Ratio_of =>
      refine' Ly.gs_mk (mc := .type "type") ?a ?r ?rd ?ga ?l ?c ?k
      (case a => k_is); (case r => k_is); (case rd => k_is); (case ga => k_is); (case l => k_is); (case c => k_is); (case k => k_is)
    case d_Ratio_read =>
      refine' Ly.gs_mk (mc := .type "type") ?a ?r ?rd ?ga ?l ?c ?k
      (case a => k_is); (case r => k_is); (case rd => k_is); (case ga => k_is); (case l => k_is); (case c => k_is); (case k => k_is)
    case d_Ratio_top =>
      refine' Ly.gp_mk ?a ?b ?t ?r ?l ?c ?k
      (case a => k_is); (case b => k_is); (case t => k_is); (case r => k_is); (case l => k_is); (case c => k_is); (case k => k_is)
    case d_Ratio_bottom =>
      refine' Ly.gp_mk ?a ?b ?t ?r ?l ?c ?k
      (case a => k_is); (case b => k_is); (case t => k_is); (case r => k_is); (case l => k_is); (case c => k_is); (case k => k_is)
    case d_Ratio_add =>
      refine' Ly.gm_mk ?a ?i ?l ?c ?k
      (case a => k_is); (case i => k_is); (case l => k_is); (case c => k_is); (case k => k_is)
    case d_Ratio_radd =>
      refine' Ly.gm_mk ?a ?i ?l ?c ?k
      (case a => k_is); (case i => k_is); (case l => k_is); (case c => k_is); (case k => k_is)
    case d_Ratio_sub =>
      refine' Ly.gm_mk ?a ?i ?l ?c ?k
      (case a => k_is); (case i => k_is); (case l => k_is); (case c => k_is); (case k => k_is)
    case d_Ratio_rsub =>
      refine' Ly.gm_mk ?a ?i ?l ?c ?k
      (case a => k_is); (case i => k_is); (case l => k_is); (case c => k_is); (case k => k_is)
    case d_Ratio_mul =>
      refine' Ly.gm_mk ?a ?i ?l ?c ?k
      (case a => k_is); (case i => k_is); (case l => k_is); (case c => k_is); (case k => k_is)
    case d_Ratio_rmul =>
      refine' Ly.gm_mk ?a ?i ?l ?c ?k
      (case a => k_is); (case i => k_is); (case l => k_is); (case c => k_is); (case k => k_is)
    case d_Ratio_floordiv =>
      refine' Ly.gm_mk ?a ?i ?l ?c ?k
      (case a => k_is); (case i => k_is); (case l => k_is); (case c => k_is); (case k => k_is)
    case d_Ratio_rfloordiv =>
      refine' Ly.gm_mk ?a ?i ?l ?c ?k
      (case a => k_is); (case i => k_is); (case l => k_is); (case c => k_is); (case k => k_is)
    case d_Ratio_mod =>
      refine' Ly.gm_mk ?a ?i ?l ?c ?k
      (case a => k_is); (case i => k_is); (case l => k_is); (case c => k_is); (case k => k_is)
    case d_Ratio_rmod =>
      refine' Ly.gm_mk ?a ?i ?l ?c ?k
      (case a => k_is); (case i => k_is); (case l => k_is); (case c => k_is); (case k => k_is)
    case d_Ratio_neg =>
      refine' Ly.gm_mk ?a ?i ?l ?c ?k
      (case a => k_is); (case i => k_is); (case l => k_is); (case c => k_is); (case k => k_is)
    case d_Ratio_abs =>
      refine' Ly.gm_mk ?a ?i ?l ?c ?k
      (case a => k_is); (case i => k_is); (case l => k_is); (case c => k_is); (case k => k_is)
    case d_Ratio_over =>
      refine' Ly.gm_mk ?a ?i ?l ?c ?k
      (case a => k_is); (case i => k_is); (case l => k_is); (case c => k_is); (case k => k_is)
    case d_Ratio_compare =>
      refine' Ly.gm_mk ?a ?i ?l ?c ?k
      (case a => k_is); (case i => k_is); (case l => k_is); (case c => k_is); (case k => k_is)
    case d_Ratio_floor =>
      refine' Ly.gm_mk ?a ?i ?l ?c ?k
      (case a => k_is); (case i => k_is); (case l => k_is); (case c => k_is); (case k => k_is)
    case d_Ratio_ceiling =>
      refine' Ly.gm_mk ?a ?i ?l ?c ?k
      (case a => k_is); (case i => k_is); (case l => k_is); (case c => k_is); (case k => k_is)
    case d_Ratio_eq =>
      refine' Ly.gm_mk ?a ?i ?l ?c ?k
      (case a => k_is); (case i => k_is); (case l => k_is); (case c => k_is); (case k => k_is)
    case d_Ratio_str =>
      refine' Ly.gm_mk ?a ?i ?l ?c ?k
      (case a => k_is); (case i => k_is); (case l => k_is); (case c => k_is); (case k => k_is)
    case d_Ratio_repr =>
      refine' Ly.gm_mk ?a ?i ?l ?c ?k
      (case a => k_is); (case i => k_is); (case l => k_is); (case c => k_is); (case k => k_is)
    case d_written =>
      refine' Ly.gf_mk KX G ?a ?l ?c ?k
      (case a => k_is); (case l => k_is); (case c => k_is); (case k => k_is)
    case d_loosely_read =>
      refine' Ly.gf_mk KX G ?a ?l ?c ?k
      (case a => k_is); (case l => k_is); (case c => k_is); (case k => k_is)
    case d_is_plain_count =>
      refine' Ly.gf_mk KX G ?a ?l ?c ?k
      (case a => k_is); (case l => k_is); (case c => k_is); (case k => k_is)
    case d_law_pot =>
      refine' Ly.gf_mk KX G ?a ?l ?c ?k
      (case a => k_is); (case l => k_is); (case c => k_is); (case k => k_is)
    case d_law_draw =>
      refine' Ly.gf_mk KX G ?a ?l ?c ?k
      (case a => k_is); (case l => k_is); (case c => k_is); (case k => k_is)
    case d_law_pick =>
      refine' Ly.gf_mk KX G ?a ?l ?c ?k
      (case a => k_is); (case l => k_is); (case c => k_is); (case k => k_is)
    case d_law_frac =>
      refine' Ly.gf_mk KX G ?a ?l ?c ?k
      (case a => k_is); (case l => k_is); (case c => k_is); (case k => k_is)
    case d_law_drawn =>
      refine' Ly.gf_mk KX G ?a ?l ?c ?k
      (case a => k_is); (case l => k_is); (case c => k_is); (case k => k_is)
    case d_law_text =>
      refine' Ly.gf_mk KX G ?a ?l ?c ?k
      (case a => k_is); (case l => k_is); (case c => k_is); (case k => k_is)
    case d_law_made =>
      refine' Ly.gf_mk KX G ?a ?l ?c ?k
      (case a => k_is); (case l => k_is); (case c => k_is); (case k => k_is)
    case d_law_side =>
      refine' Ly.gf_mk KX G ?a ?l ?c ?k
      (case a => k_is); (case l => k_is); (case c => k_is); (case k => k_is)
    case d_law_plus =>
      refine' Ly.gf_mk KX G ?a ?l ?c ?k
      (case a => k_is); (case l => k_is); (case c => k_is); (case k => k_is)
    case d_law_less =>
      refine' Ly.gf_mk KX G ?a ?l ?c ?k
      (case a => k_is); (case l => k_is); (case c => k_is); (case k => k_is)
    case d_law_times =>
      refine' Ly.gf_mk KX G ?a ?l ?c ?k
      (case a => k_is); (case l => k_is); (case c => k_is); (case k => k_is)
    case d_law_floor =>
      refine' Ly.gf_mk KX G ?a ?l ?c ?k
      (case a => k_is); (case l => k_is); (case c => k_is); (case k => k_is)
    case d_law_rest =>
      refine' Ly.gf_mk KX G ?a ?l ?c ?k
      (case a => k_is); (case l => k_is); (case c => k_is); (case k => k_is)
    case d_law_told =>
      refine' Ly.gf_mk KX G ?a ?l ?c ?k
      (case a => k_is); (case l => k_is); (case c => k_is); (case k => k_is)
    case d_law_are_integers =>
      refine' Ly.gf_mk KX G ?a ?l ?c ?k
      (case a => k_is); (case l => k_is); (case c => k_is); (case k => k_is)
    case d_law_sums_right =>
      refine' Ly.gf_mk KX G ?a ?l ?c ?k
      (case a => k_is); (case l => k_is); (case c => k_is); (case k => k_is)
    case d_law_quotients_right =>
      refine' Ly.gf_mk KX G ?a ?l ?c ?k
      (case a => k_is); (case l => k_is); (case c => k_is); (case k => k_is)
    case d_law_alone_right =>
      refine' Ly.gf_mk KX G ?a ?l ?c ?k
      (case a => k_is); (case l => k_is); (case c => k_is); (case k => k_is)
    case d_law_order_right =>
      refine' Ly.gf_mk KX G ?a ?l ?c ?k
      (case a => k_is); (case l => k_is); (case c => k_is); (case k => k_is)
    case d_law_in_place_right =>
      refine' Ly.gf_mk KX G ?a ?l ?c ?k
      (case a => k_is); (case l => k_is); (case c => k_is); (case k => k_is)
    case d_law_register_right =>
      refine' Ly.gf_mk KX G ?a ?l ?c ?k
      (case a => k_is); (case l => k_is); (case c => k_is); (case k => k_is)
    case d_law_right =>
      refine' Ly.gf_mk KX G ?a ?l ?c ?k
      (case a => k_is); (case l => k_is); (case c => k_is); (case k => k_is)
    case d_law =>
      refine' Ly.gf_mk KX G ?a ?l ?c ?k
      (case a => k_is); (case l => k_is); (case c => k_is); (case k => k_is)
    case x_Ratio_ne =>
      k_is
    case x_Ratio_iadd =>
      k_is
    case x_Ratio_isub =>
      k_is
    case x_Ratio_imul =>
      k_is
    case x_Ratio_ifloordiv =>
      k_is
    case x_Ratio_imod =>
      k_is
    case b_abs =>
      refine' PySem.W.mg_none_of KX G ?a
      (case a => k_is)
    case b_len =>
      refine' PySem.W.mg_none_of KX G ?a
      (case a => k_is)
    case b_divmod =>
      refine' PySem.W.mg_none_of KX G ?a
      (case a => k_is)
    case b_max =>
      refine' PySem.W.mg_none_of KX G ?a
      (case a => k_is)
    case b_min =>
      refine' PySem.W.mg_none_of KX G ?a
      (case a => k_is)
    case b_all =>
      refine' PySem.W.mg_none_of KX G ?a
      (case a => k_is)
    case b_int =>
      refine' PySem.W.mg_none_of KX G ?a
      (case a => k_is)
    case b_str =>
      refine' PySem.W.mg_none_of KX G ?a
      (case a => k_is)
    case b_bool =>
      refine' PySem.W.mg_none_of KX G ?a
      (case a => k_is)
    case b_isinstance =>
      refine' PySem.W.mg_none_of KX G ?a
      (case a => k_is)
    case b_range =>
      refine' PySem.W.mg_none_of KX G ?a
      (case a => k_is)
    case b_repr =>
      refine' PySem.W.mg_none_of KX G ?a
      (case a => k_is)
    case g_gcd =>
      refine' PySem.W.mg_of KX G ?a
      (case a => k_is)
