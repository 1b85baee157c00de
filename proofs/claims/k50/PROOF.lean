import PyProof.Rows.All
import Wide.All
import OpenK.AllK
import Wide.FinOn
import HandS.ForMost
import HandS.Wide
import HandS.IsInst
import HandS.Gcd
import HandS.Defaults
import HandS.Comp
import HandS.Zip
import HandS.Iter
import HandS.Style
import PyProof.ReprRoads
import PyProof.ReprLen
import HandS.Rev
import HandS.ForExc
import HandS.ExcInit
import HandS.ExcIs
import HandS.TryMany
import HandS.FStr
import HandS.ExcField
import HandS.TryOnly
import HandS.MakeKwOnly
import HandS.Flow
import HandS.More
import HandS.Dict
import HandS.Walk
import HandS.TupSets
import HandS.Flt
import PySem.Challenge.RW_fleuron_k50_whole_least_tables
set_option Elab.async false
set_option linter.all false
set_option maxRecDepth 100000
set_option maxHeartbeats 4000000
namespace Fl
open PySem PySem.Spec PyProof.Rows L2

/-! ### defs of the text, and what they promise -/
structure DefIn (K : PySem.W.Frag) (mg : Str → Option Value) (x : Str) (st : Stmt) : Prop where
  ex : ∃ (f : Addr) (fd : FuncData), Fun K x x st f fd ∧ mg x = some (.ref f)

structure Has (P : Program) (w : World) (K : PySem.W.Frag) (mg : Str → Option Value) (base : Heap) (k : Nat) (x : Str) (ps : List Str) (sp : Sp) : Prop where
  ex : ∃ (f : Addr) (fd : FuncData), FnOk P w K mg base CX0 k f fd ps sp ∧ mg x = some (.ref f) ∧ PySem.W.keepIn K (.ref f) = true ∧ Binds K fd ps []

section
variable {P : Program} {w : World} {K : PySem.W.Frag} {mg : Str → Option Value} {base : Heap}
theorem Has.mono {j k : Nat} {x : Str} {ps : List Str} {sp : Sp} (h : Has P w K mg base j x ps sp) (e : j ≤ k) : Has P w K mg base k x ps sp := by
  obtain ⟨f, fd, a, b, c, d⟩ := h.ex
  exact ⟨f, fd, a.mono e, b, c, d⟩
/-- the context of a def's body -/
abbrev bx (P : Program) (w : World) (K : PySem.W.Frag) (mg : Str → Option Value) (base : Heap) (N : List Str) (x : Str) (st : Stmt) (f : Addr) (cdv : Value) (A : Around) (outer : List Env) (s : Shared) (H : Hp) (E : XK) : Cx :=
  (cxOf CX0 P w K mg base N x (defScope st) f cdv A outer s H E).nox
theorem fnok_of {x : Str} {st : Stmt} {N ps : List Str} {k : Nat} {sp : Sp} {f : Addr} {fd : FuncData} (F : Fun K x x st f fd) (S : FnScope N ps (defScope st))
    (len : ∀ vs H Q E, sp vs H Q E → vs.length = ps.length)
    (hbody : ∀ (f : Addr) (cdv : Value) (A : Around) (outer : List Env) (s : Shared) (H : Hp) (vs : List V) (Q : VK) (E : XK), Room k (A.deeper (envOfC x (defScope st) s.heap.objs.size f cdv)) → sp vs H Q E →
      ∃ t, PSs (bx P w K mg base N x st f cdv A outer s H E) (defBody st) t ∧ t { nx := fun _ H' => Q .non H', rt := Q } (start N vs) H) : FnOk P w K mg base CX0 (k + 1) f fd ps sp :=
  F.ok S len fun cdv A outer s H vs Q E hr h => hbody f cdv A outer s H vs Q E hr h
theorem has_of {x : Str} {st : Stmt} {N ps : List Str} {k : Nat} {sp : Sp} (D : DefIn K mg x st) (S : FnScope N ps (defScope st))
    (hb : ∀ (kV doc pm : Value) (an : Option Addr) (cdv ct : Value) (us : List Value), us.length = ps.length → bindArgs (PySem.W.fnOf x x (defArgs st) (defBody st) (defScope st) .none kV doc pm an cdv ct) ⟨us, []⟩ = pure (ps.zip us))
    (len : ∀ vs H Q E, sp vs H Q E → vs.length = ps.length)
    (hbody : ∀ (f : Addr) (cdv : Value) (A : Around) (outer : List Env) (s : Shared) (H : Hp) (vs : List V) (Q : VK) (E : XK), Room k (A.deeper (envOfC x (defScope st) s.heap.objs.size f cdv)) → sp vs H Q E →
      ∃ t, PSs (bx P w K mg base N x st f cdv A outer s H E) (defBody st) t ∧ t { nx := fun _ H' => Q .non H', rt := Q } (start N vs) H) : Has P w K mg base (k + 1) x ps sp := by
  obtain ⟨f, fd, F, m⟩ := D.ex
  exact ⟨f, fd, fnok_of F S len hbody, m, F.kp, F.binds hb⟩
end
section
variable {X : Cx}
theorem pe_h {k : Nat} {x : Str} {ps : List Str} {sp : Sp} {e : Expr} {es : List Expr} {t : TA} {p pos : Pos} (h : Has X.prog X.w X.K X.mg X.base k x ps sp) (hr : Room k X.A) (ha : PA X (e :: es) t) (hg : Gl X x := by rfl)
    (hdb : (x == ("__debug__" : Str)) = false := by decide) (he : starEach (e :: es) X.env = (false, eval e X.env) :: starEach es X.env := by rfl) (hpl : (backTo pos (starEach es X.env)).any (·.1) = false := by rfl) :
    PE X (.Call (.Name x p) (e :: es) [] pos) (tCall sp [] E0 t) := by
  obtain ⟨f, fd, a, b, c, d⟩ := h.ex
  exact pe_call a hr hg b c d .nil pass0 ha hdb he hpl
end

/-! ### heaps: all stands but at one address -/
def Ex1 (d : Addr) (H H' : Hp) : Prop := ∀ a o, a ≠ d → H a = some o → H' a = some o
theorem Ex1.refl {d : Addr} {H : Hp} : Ex1 d H H := fun _ _ _ h => h
theorem Ex1.trans {d : Addr} {H H1 H2 : Hp} (a : Ex1 d H H1) (b : Ex1 d H1 H2) : Ex1 d H H2 := fun x o n h => b x o n (a x o n h)
theorem Ex1.upd {d : Addr} {H : Hp} {o : HO} : Ex1 d H (upd H d o) := fun a u n h => by rw [upd_ne n]; exact h
theorem Ex1.of {d : Addr} {H H' : Hp} (h : Same H H') : Ex1 d H H' := fun a o _ e => h a o e
theorem Ex1.rd {d : Addr} {H H' : Hp} {a : Addr} {u : HO} (e : Ex1 d H H') (n : a ≠ d) (h : Rd H a u) : Rd H' a u := by
  rcases h with h | ⟨o, h⟩
  · exact Or.inl (e a _ n h)
  · exact Or.inr ⟨o, e a _ n h⟩
theorem Ex1.l {K : PySem.W.Frag} {d : Addr} {H H' : Hp} {a : Addr} {xs : List V} (e : Ex1 d H H') (n : a ≠ d) (h : SqL K H a xs) : SqL K H' a xs := by
  rcases h with h | h
  · exact Or.inl (e.rd n h)
  · exact Or.inr h
theorem Ex1.t {K : PySem.W.Frag} {d : Addr} {H H' : Hp} {a : Addr} {xs : List V} (e : Ex1 d H H') (n : a ≠ d) (h : SqT K H a xs) : SqT K H' a xs := by
  rcases h with h | h
  · exact Or.inl (e.rd n h)
  · exact Or.inr h

/-! ### the deck -/
def DeckAt (K : PySem.W.Frag) (H : Hp) (d : Addr) : Prop := ∃ (s : Addr) (ns : List Int) (pos rest seed : Int), H d = some (.lst [.ref s, .int pos, .int rest, .int seed]) ∧ SqL K H s (ns.map V.int) ∧ s ≠ d ∧ 0 ≤ pos
theorem DeckAt.same {K : PySem.W.Frag} {H H' : Hp} {d : Addr} (h : DeckAt K H d) (e : Same H H') : DeckAt K H' d := by
  obtain ⟨s, ns, p, r, q, h1, h2, h3, h4⟩ := h
  exact ⟨s, ns, p, r, q, e _ _ h1, e.seq h2, h3, h4⟩
theorem Same.new {H : Hp} {p : Addr} {o : HO} (h : H p = none) : Same H (upd H p o) := fun a u e => by
  rw [upd_ne (ne_of_none e h)]
  exact e
def spDraw (K : PySem.W.Frag) : Sp := fun vs H Q _ => ∃ (d : Addr) (m : Int), vs = [.ref d, .int m] ∧ DeckAt K H d ∧ 0 < m ∧ m < 10 ^ 62 ∧ ∀ v H', 0 ≤ v → v < m → DeckAt K H' d → Ex1 d H H' → Q (.int v) H'
def spDeck (K : PySem.W.Frag) : Sp := fun vs H Q _ => ∃ (a : Addr) (ns : List Int), vs = [.ref a] ∧ SqL K H a (ns.map V.int) ∧ ∀ d H', H d = none → DeckAt K H' d → Same H H' → Q (.ref d) H'
theorem div62 {i m : Int} (h : 0 < m) (h1 : m < 10 ^ 62) : CDivW i m := by
  have e : (10 : Int) ^ 62 < 2 ^ 250 := by decide
  refine wide_div (b := 250) h ?_ (by decide) (by decide)
  have e1 : (10 : Nat) ^ 62 < 2 ^ 250 := by decide
  have e2 : m.natAbs < 10 ^ 62 := by omega
  omega

/-! ### readings, step by step -/
section
variable {σ : L2.St} {H : Hp} {Q : VK} {v x y : V} {ta tb tc te : TE} {K : PySem.W.Frag} {D : Ends} {t u : TS}
theorem g_var {i : Nat} (h : σ[i]? = some (some v)) (q : Q v H) : tVar i σ H Q := ⟨v, h, q⟩
theorem g_c (q : Q v H) : tC v σ H Q := q
theorem g_op {r : R2} (h : ta σ H fun x H1 => tb σ H1 fun y H2 => r x y H2 Q) : tOp r ta tb σ H Q := h
theorem g_un {r : V → Hp → VK → Prop} (h : ta σ H fun x H1 => r x H1 Q) : tUn r ta σ H Q := h
theorem g_I0 {g : Int → Int → V} {i j : Int} (q : Q (g i j) H) : rI0 g (.int i) (.int j) H Q := ⟨i, j, rfl, rfl, q⟩
theorem g_I {C : Int → Int → Prop} {g : Int → Int → V} {i j : Int} (c : C i j) (q : Q (g i j) H) : rI C g (.int i) (.int j) H Q := ⟨i, j, rfl, rfl, c, q⟩
theorem g_U {g : Int → V} {i : Int} (q : Q (g i) H) : rU g (.int i) H Q := ⟨i, rfl, q⟩
theorem g_ixL {p : Addr} {xs : List V} {i : Int} (h : SqL K H p xs) (a : atI xs i = some v) (q : Q v H) : rIxL K (.ref p) (.int i) H Q := ⟨p, xs, i, v, rfl, rfl, h, a, q⟩
theorem g_ixT {p : Addr} {xs : List V} {i : Int} (h : SqT K H p xs) (a : atI xs i = some v) (q : Q v H) : rIxT K (.ref p) (.int i) H Q := ⟨p, xs, i, v, rfl, rfl, h, a, q⟩
theorem g_eq (h : scal x y = true) (q : Q (.bl (decide (x = y))) H) : rEq x y H Q := ⟨h, q⟩
theorem g_ne (h : scal x y = true) (q : Q (.bl (!decide (x = y))) H) : rNe x y H Q := ⟨h, q⟩
theorem g_eqI {i j : Int} (q : Q (.bl (decide (i = j))) H) : rEq (.int i) (.int j) H Q := ⟨rfl, by
  have e : decide (V.int i = V.int j) = decide (i = j) := by simp
  rw [e]; exact q⟩
theorem g_neI {i j : Int} (q : Q (.bl (!decide (i = j))) H) : rNe (.int i) (.int j) H Q := ⟨rfl, by
  have e : decide (V.int i = V.int j) = decide (i = j) := by simp
  rw [e]; exact q⟩
theorem g_eqB {i j : Bool} (q : Q (.bl (decide (i = j))) H) : rEq (.bl i) (.bl j) H Q := ⟨rfl, by
  have e : decide (V.bl i = V.bl j) = decide (i = j) := by simp
  rw [e]; exact q⟩
/-! calls of built-ins, by named readings -/
def rInt : List V → Hp → VK → Prop := fun xs H Q => ∃ i, xs = [.int i] ∧ Q (.int i) H
def rIntB : List V → Hp → VK → Prop := fun xs H Q => ∃ k, xs = [.bl k] ∧ Q (.int (if k then 1 else 0)) H
def rAbs : List V → Hp → VK → Prop := fun xs H Q => ∃ i, xs = [.int i] ∧ Q (.int (if i < 0 then -i else i)) H
def rMax : List V → Hp → VK → Prop := fun xs H Q => ∃ i j, xs = [.int i, .int j] ∧ Q (.int (if j > i then j else i)) H
def rMin : List V → Hp → VK → Prop := fun xs H Q => ∃ i j, xs = [.int i, .int j] ∧ Q (.int (if j < i then j else i)) H
def rLen (K : PySem.W.Frag) : List V → Hp → VK → Prop := fun xs H Q => ∃ p ys, xs = [.ref p] ∧ (SqL K H p ys ∨ SqT K H p ys) ∧ Q (.int (ys.length : Int)) H
def rList (K : PySem.W.Frag) : List V → Hp → VK → Prop := fun xs H Q => ∃ p ys, xs = [.ref p] ∧ (SqL K H p ys ∨ SqT K H p ys) ∧ ∀ l, H l = none → Q (.ref l) (upd H l (.lst ys))
theorem g_cb1 {r : List V → Hp → VK → Prop} (h : ta σ H fun x H1 => r [x] H1 Q) : tCB r (tCons ta tNil) σ H Q := h
theorem g_cb2 {r : List V → Hp → VK → Prop} (h : ta σ H fun x H1 => tb σ H1 fun y H2 => r [x, y] H2 Q) : tCB r (tCons ta (tCons tb tNil)) σ H Q := h
theorem g_int {i : Int} (q : Q (.int i) H) : rInt [.int i] H Q := ⟨i, rfl, q⟩
theorem g_intB {k : Bool} (q : Q (.int (if k then 1 else 0)) H) : rIntB [.bl k] H Q := ⟨k, rfl, q⟩
theorem g_abs {i : Int} (q : Q (.int (if i < 0 then -i else i)) H) : rAbs [.int i] H Q := ⟨i, rfl, q⟩
theorem g_max {i j : Int} (q : Q (.int (if j > i then j else i)) H) : rMax [.int i, .int j] H Q := ⟨i, j, rfl, q⟩
theorem g_min {i j : Int} (q : Q (.int (if j < i then j else i)) H) : rMin [.int i, .int j] H Q := ⟨i, j, rfl, q⟩
theorem g_lenL {p : Addr} {ys : List V} (h : SqL K H p ys) (q : Q (.int (ys.length : Int)) H) : rLen K [.ref p] H Q := ⟨p, ys, rfl, .inl h, q⟩
theorem g_lenT {p : Addr} {ys : List V} (h : SqT K H p ys) (q : Q (.int (ys.length : Int)) H) : rLen K [.ref p] H Q := ⟨p, ys, rfl, .inr h, q⟩
theorem g_listL {p : Addr} {ys : List V} (h : SqL K H p ys) (q : ∀ l, H l = none → Q (.ref l) (upd H l (.lst ys))) : rList K [.ref p] H Q := ⟨p, ys, rfl, .inl h, q⟩
theorem g_gcd {a b : Int} (q : Q (.int ((Nat.gcd a.natAbs b.natAbs : Nat) : Int)) H) : rGcd [.int a, .int b] H Q := ⟨a, b, rfl, q⟩
theorem g_isi {c : V} {ty w : Value} {b : Bool} (hc : ClsV c w) (ht : TyX K H x ty) (e : PySem.W.kitOne K ty w = some b) (q : Q (.bl b) H) : rIsi K [x, c] H Q := ⟨x, c, ty, w, b, rfl, hc, ht, e, q⟩
/-- isinstance(x, T), T a built-in type's name, x of the built-in type n -/
theorem g_isiT {n m : String} {b : Bool} (ht : TyX K H x (.type n)) (e : kitB n m = some b) (q : Q (.bl b) H) : rIsi K [x, .ty m] H Q := ⟨x, .ty m, .type n, .type m, b, rfl, .ty m, ht, kit_ty e, q⟩
/-! displays -/
theorem g_tup2 (h : ta σ H fun x H1 => tb σ H1 fun y H2 => ∀ p, H2 p = none → Q (.ref p) (upd H2 p (.tup [x, y]))) : tTup (tCons ta (tCons tb tNil)) σ H Q := by
  show ta σ H fun x H1 => tb σ H1 fun y H2 => 2 ≤ sizeLine ∧ ∀ p, H2 p = none → Q (.ref p) (upd H2 p (.tup [x, y]))
  simpa [show (2 : Nat) ≤ sizeLine by decide] using h
theorem g_tupN {ta : TA} (h : ta σ H fun xs H1 => xs.length ≤ sizeLine ∧ ∀ p, H1 p = none → Q (.ref p) (upd H1 p (.tup xs))) : tTup ta σ H Q := h
theorem g_lstN {ta : TA} (h : ta σ H fun xs H1 => xs.length ≤ sizeLine ∧ ∀ p, H1 p = none → Q (.ref p) (upd H1 p (.lst xs))) : tLst ta σ H Q := h
theorem g_nil {Q : List V → Hp → Prop} (q : Q [] H) : tNil σ H Q := q
theorem g_cons {tr : TA} {Q : List V → Hp → Prop} (h : ta σ H fun x H1 => tr σ H1 fun xs H2 => Q (x :: xs) H2) : tCons ta tr σ H Q := h
theorem g_new {n : Nat} {Q : Addr → Hp → Prop} {f : Addr → Hp} (hn : n ≤ 1000) (h : ∀ p, H p = none → Q p (f p)) : n ≤ sizeLine ∧ ∀ p, H p = none → Q p (f p) := ⟨Nat.le_trans hn (by decide), h⟩
/-! tests -/
variable {QB : Bool → Hp → Prop} {tt tu : TT}
theorem g_test (h : te σ H fun x H1 => ∃ k, x = .bl k ∧ QB k H1) : tTest te σ H QB := h
theorem g_B (h : te σ H fun x H1 => ∃ k, x = .bl k ∧ QB k H1) : tB te σ H QB := h
theorem g_bl {b : Bool} (q : QB b H) : ∃ k, V.bl b = .bl k ∧ QB k H := ⟨b, rfl, q⟩
theorem g_not (h : tt σ H fun b H1 => QB (!b) H1) : tNot tt σ H QB := h
theorem g_and (h : tt σ H fun b H1 => if b = true then tu σ H1 QB else QB false H1) : tAnd tt tu σ H QB := h
theorem g_or (h : tt σ H fun b H1 => if b = true then QB true H1 else tu σ H1 QB) : tOr tt tu σ H QB := h
theorem g_andV (h : ta σ H fun x H1 => ∃ c, x = .bl c ∧ if c = true then tb σ H1 Q else Q (.bl false) H1) : tAndV ta tb σ H Q := h
theorem g_orV (h : ta σ H fun x H1 => ∃ c, x = .bl c ∧ if c = true then Q (.bl true) H1 else tb σ H1 Q) : tOrV ta tb σ H Q := h
theorem g_notV (h : ta σ H fun x H1 => ∃ c, x = .bl c ∧ Q (.bl (!c)) H1) : tNotV ta σ H Q := h
theorem g_ex {b : Bool} {P : Bool → Prop} (q : P b) : ∃ c, V.bl b = .bl c ∧ P c := ⟨b, rfl, q⟩
theorem g_ite {p : Prop} [Decidable p] {A B : Prop} (h1 : p → A) (h2 : ¬ p → B) : if decide p = true then A else B := by
  by_cases h : p
  · rw [decide_eq_true h, if_pos rfl]; exact h1 h
  · rw [decide_eq_false h, if_neg Bool.false_ne_true]; exact h2 h
theorem g_iteN {p : Prop} [Decidable p] {A B : Prop} (h1 : ¬ p → A) (h2 : p → B) : if (!decide p) = true then A else B := by
  by_cases h : p
  · rw [decide_eq_true h, if_neg (by decide)]; exact h2 h
  · rw [decide_eq_false h, if_pos (by decide)]; exact h1 h
theorem g_iteT {A B : Prop} (h : A) : if true = true then A else B := by rw [if_pos rfl]; exact h
theorem g_iteF {A B : Prop} (h : B) : if false = true then A else B := by rw [if_neg Bool.false_ne_true]; exact h
theorem g_iteNT {A B : Prop} (h : B) : if (!true) = true then A else B := by rw [if_neg (by decide)]; exact h
theorem g_iteNF {A B : Prop} (h : A) : if (!false) = true then A else B := by rw [if_pos (by decide)]; exact h
theorem g_iteB {b : Bool} {A B : Prop} (h1 : b = true → A) (h2 : b = false → B) : if b = true then A else B := by
  cases b with
  | true => rw [if_pos rfl]; exact h1 rfl
  | false => rw [if_neg Bool.false_ne_true]; exact h2 rfl
/-! statements -/
variable {g : TG}
theorem g_seq (h : t { D with nx := u D } σ H) : tSeq t u D σ H := h
theorem g_next (q : D.nx σ H) : tNext D σ H := q
theorem g_ret (h : te σ H D.rt) : tRet te D σ H := h
theorem g_if {c : TT} (h : c σ H fun b H1 => if b = true then t D σ H1 else u D σ H1) : tIfS c t u D σ H := h
theorem g_set {i : Nat} (h : te σ H fun x H1 => D.nx (σ.set i (some x)) H1) : tAsg te (gName i) D σ H := h
theorem g_setS (h : te σ H fun x H1 => ta σ H1 fun o H2 => tb σ H2 fun i H3 => rSetL o i x H3 fun H4 => D.nx σ H4) : tAsg te (gSub ta tb rSetL) D σ H := h
theorem g_setL {p : Addr} {xs : List V} {k : Int} {j : Nat} {Q : Hp → Prop} (h : H p = some (.lst xs)) (e : ixN xs.length k = some j) (q : Q (upd H p (.lst (xs.set j v)))) : rSetL (.ref p) (.int k) v H Q := ⟨p, xs, k, j, rfl, rfl, h, e, q⟩
theorem g_drop (h : te σ H fun _ H1 => D.nx σ H1) : tDrop te D σ H := h
theorem g_aug {i : Nat} {r : TIp} (hx : σ[i]? = some (some x)) (h : te σ H fun y H1 => r x y H1 fun z H2 => D.nx (σ.set i (some z)) H2) : tAug i te r D σ H := ⟨x, hx, h⟩
theorem g_ipI {f : Int → Int → Int} {i j : Int} (q : Q (.int (f i j)) H) : ipI f (.int i) (.int j) H Q := ⟨i, j, rfl, rfl, q⟩
theorem g_call {sp : Sp} {E : XK} {ta : TA} (h : ta σ H fun vs H1 => sp vs H1 Q E) : tCall sp [] E ta σ H Q := by
  show ta σ H fun vs H1 => sp (vs ++ []) H1 Q E
  simpa using h
end
section
variable {X : Cx}
theorem pe_powc {a b r : Int} {j1 j2 : Nat} {p1 p2 pos : Pos} (h : 0 ≤ b ∧ b ≤ 1000000 ∧ a.natAbs < 2 ^ 64) (e : a ^ b.toNat = r) : PE X (.BinOp (.Constant (.int a) j1 p1) .Pow (.Constant (.int b) j2 p2) pos) (tC (.int r)) :=
  ⟨fun pins s σ H Q I q => (pe_op op_pow pe_int pe_int).run pins s σ H Q I ⟨a, b, rfl, rfl, h, by subst e; exact q⟩⟩
theorem call_int' : CallR X (.type "int") rInt := fun pins s σ H xs us Q I r h => call_int1 pins s σ H xs us Q I r (.inl h)
theorem call_intB : CallR X (.type "int") rIntB := fun pins s σ H xs us Q I r h => call_int1 pins s σ H xs us Q I r (.inr h)
theorem call_abs' : CallR X (.builtin "abs") rAbs := call_abs
theorem call_max' (hc : X.calm = true) : CallR X (.builtin "max") rMax := call_max2 hc
theorem call_min' (hc : X.calm = true) : CallR X (.builtin "min") rMin := call_min2 hc
theorem call_len' : CallR X (.builtin "len") (rLen X.K) := call_len_seq
theorem call_list' : CallR X (.type "list") (rList X.K) := call_list_of
end
/-! isinstance, by the built-in kinds -/
theorem kit_int_int : kitB "int" "int" = some true := by decide +kernel
theorem kit_int_bool : kitB "int" "bool" = some false := by decide +kernel
theorem kit_int_tuple : kitB "int" "tuple" = some false := by decide +kernel
theorem kit_int_str : kitB "int" "str" = some false := by decide +kernel
theorem kit_int_list : kitB "int" "list" = some false := by decide +kernel
theorem kit_int_dict : kitB "int" "dict" = some false := by decide +kernel
theorem kit_bool_int : kitB "bool" "int" = some true := by decide +kernel
theorem kit_bool_bool : kitB "bool" "bool" = some true := by decide +kernel
theorem kit_bool_tuple : kitB "bool" "tuple" = some false := by decide +kernel
theorem kit_bool_str : kitB "bool" "str" = some false := by decide +kernel
theorem kit_bool_list : kitB "bool" "list" = some false := by decide +kernel
theorem kit_bool_dict : kitB "bool" "dict" = some false := by decide +kernel
theorem kit_tuple_int : kitB "tuple" "int" = some false := by decide +kernel
theorem kit_tuple_bool : kitB "tuple" "bool" = some false := by decide +kernel
theorem kit_tuple_tuple : kitB "tuple" "tuple" = some true := by decide +kernel
theorem kit_tuple_str : kitB "tuple" "str" = some false := by decide +kernel
theorem kit_tuple_list : kitB "tuple" "list" = some false := by decide +kernel
theorem kit_tuple_dict : kitB "tuple" "dict" = some false := by decide +kernel
theorem kit_str_int : kitB "str" "int" = some false := by decide +kernel
theorem kit_str_bool : kitB "str" "bool" = some false := by decide +kernel
theorem kit_str_tuple : kitB "str" "tuple" = some false := by decide +kernel
theorem kit_str_str : kitB "str" "str" = some true := by decide +kernel
theorem kit_str_list : kitB "str" "list" = some false := by decide +kernel
theorem kit_str_dict : kitB "str" "dict" = some false := by decide +kernel
theorem kit_list_int : kitB "list" "int" = some false := by decide +kernel
theorem kit_list_bool : kitB "list" "bool" = some false := by decide +kernel
theorem kit_list_tuple : kitB "list" "tuple" = some false := by decide +kernel
theorem kit_list_str : kitB "list" "str" = some false := by decide +kernel
theorem kit_list_list : kitB "list" "list" = some true := by decide +kernel
theorem kit_list_dict : kitB "list" "dict" = some false := by decide +kernel
theorem kit_NoneType_int : kitB "NoneType" "int" = some false := by decide +kernel
theorem kit_NoneType_bool : kitB "NoneType" "bool" = some false := by decide +kernel
theorem kit_NoneType_tuple : kitB "NoneType" "tuple" = some false := by decide +kernel
theorem kit_NoneType_str : kitB "NoneType" "str" = some false := by decide +kernel
theorem kit_NoneType_list : kitB "NoneType" "list" = some false := by decide +kernel
theorem kit_NoneType_dict : kitB "NoneType" "dict" = some false := by decide +kernel
theorem kit_dict_int : kitB "dict" "int" = some false := by decide +kernel
theorem kit_dict_bool : kitB "dict" "bool" = some false := by decide +kernel
theorem kit_dict_tuple : kitB "dict" "tuple" = some false := by decide +kernel
theorem kit_dict_str : kitB "dict" "str" = some false := by decide +kernel
theorem kit_dict_list : kitB "dict" "list" = some false := by decide +kernel
theorem kit_dict_dict : kitB "dict" "dict" = some true := by decide +kernel

/-! defs with defaults -/
structure DefInD (K : PySem.W.Frag) (mg : Str → Option Value) (x : Str) (st : Stmt) (dvs : List V) : Prop where
  ex : ∃ (f : Addr) (fd : FuncData), FunD K x x (defArgs st) (defBody st) (defScope st) dvs [] f fd ∧ mg x = some (.ref f)
structure HasD (P : Program) (w : World) (K : PySem.W.Frag) (mg : Str → Option Value) (base : Heap) (k : Nat) (x : Str) (ps : List Str) (dvs : List V) (sp : Sp) : Prop where
  ex : ∃ (f : Addr) (fd : FuncData) (ds : List Value), FnOk P w K mg base CX0 k f fd ps sp ∧ mg x = some (.ref f) ∧ PySem.W.keepIn K (.ref f) = true ∧ Vals dvs ds ∧ Binds K fd ps ds
section
variable {P : Program} {w : World} {K : PySem.W.Frag} {mg : Str → Option Value} {base : Heap}
/-- the def's promise; its calls with n values written, the defaults behind the first j filling up -/
theorem hasD_of {x : Str} {st : Stmt} {N ps : List Str} {k : Nat} {sp : Sp} {dvs : List V} (D : DefInD K mg x st dvs) (S : FnScope N ps (defScope st)) (n j : Nat) (hd : dvs ≠ []) (hn : n + (dvs.length - j) = ps.length)
    (hb : ∀ (T : Addr) (kV doc pm : Value) (an : Option Addr) (cdv ct : Value) (us its : List Value), us.length = n → its.length = dvs.length →
      ∃ k, bindArgs (PySem.W.fnOf x x (defArgs st) (defBody st) (defScope st) (.ref T) kV doc pm an cdv ct) ⟨us, []⟩ = seqItems? (.ref T) >>= k ∧ k (some its.toArray) = pure (ps.zip (us ++ its.drop j)))
    (len : ∀ vs H Q E, sp vs H Q E → vs.length = ps.length)
    (hbody : ∀ (f : Addr) (cdv : Value) (A : Around) (outer : List Env) (s : Shared) (H : Hp) (vs : List V) (Q : VK) (E : XK), Room k (A.deeper (envOfC x (defScope st) s.heap.objs.size f cdv)) → sp vs H Q E →
      ∃ t, PSs (bx P w K mg base N x st f cdv A outer s H E) (defBody st) t ∧ t { nx := fun _ H' => Q .non H', rt := Q } (start N vs) H) : HasD P w K mg base (k + 1) x ps (dvs.drop j) sp := by
  obtain ⟨f, fd, F, m⟩ := D.ex
  obtain ⟨ds, r, b⟩ := F.binds1 n j hd hn hb
  refine ⟨f, fd, ds, F.ok S len fun cdv A outer s H vs Q E hr h => ?_, m, F.kp, r, b⟩
  obtain ⟨t, ht, q⟩ := hbody f cdv A outer s H vs Q E hr h
  exact ⟨t, ht.nox, q⟩
end
theorem pe_hD {X : Cx} {k : Nat} {x : Str} {ps : List Str} {dvs : List V} {sp : Sp} {e : Expr} {es : List Expr} {t : TA} {p pos : Pos} (h : HasD X.prog X.w X.K X.mg X.base k x ps dvs sp) (hr : Room k X.A) (ha : PA X (e :: es) t) (hg : Gl X x := by rfl)
    (hdb : (x == ("__debug__" : Str)) = false := by decide) (he : starEach (e :: es) X.env = (false, eval e X.env) :: starEach es X.env := by rfl) (hpl : (backTo pos (starEach es X.env)).any (·.1) = false := by rfl) :
    PE X (.Call (.Name x p) (e :: es) [] pos) (tCall sp dvs E0 t) := by
  obtain ⟨f, fd, ds, a, b, c, r, d⟩ := h.ex
  exact pe_call a hr hg b c d r pass0 ha hdb he hpl
theorem g_callD {sp : Sp} {dvs : List V} {E : XK} {ta : TA} {σ : L2.St} {H : Hp} {Q : VK} (h : ta σ H fun vs H1 => sp (vs ++ dvs) H1 Q E) : tCall sp dvs E ta σ H Q := h
end Fl

set_option Elab.async false
set_option linter.all false
set_option maxRecDepth 100000
set_option maxHeartbeats 4000000
set_option exponentiation.threshold 20000
/-! fractions: the mathematics, and what the helpers promise -/
namespace Fl
open PySem PySem.Spec PyProof.Rows L2

def gg (p q : Int) : Int := ((Nat.gcd p.natAbs q.natAbs : Nat) : Int)
def rp (p q : Int) : Int := if q < 0 then -(p / gg p q) else p / gg p q
def rq (p q : Int) : Int := if q < 0 then -(q / gg p q) else q / gg p q
theorem gg_pos {p q : Int} (h : q ≠ 0) : 0 < gg p q := by
  have : 0 < Nat.gcd p.natAbs q.natAbs := Nat.gcd_pos_of_pos_right _ (by omega)
  unfold gg; omega
theorem gg_dvd_l (p q : Int) : gg p q ∣ p := by
  unfold gg
  exact Int.ofNat_dvd_left.mpr (Nat.gcd_dvd_left _ _)
theorem gg_dvd_r (p q : Int) : gg p q ∣ q := by
  unfold gg
  exact Int.ofNat_dvd_left.mpr (Nat.gcd_dvd_right _ _)
theorem abs_div_le {p g : Int} (hg : 0 < g) : (p / g).natAbs ≤ p.natAbs := by
  have h := Int.natAbs_ediv_le_natAbs p g
  exact h
theorem fdiv_neg_exact {p g : Int} (hg : 0 < g) (hd : g ∣ p) : Int.fdiv p (-g) = -(p / g) := by
  obtain ⟨k, rfl⟩ := hd
  have h1 : g * k / g = k := Int.mul_ediv_cancel_left k (by omega)
  rw [h1]
  have h2 : g * k = (-g) * (-k) := by rw [Int.neg_mul_neg]
  rw [h2]
  exact Int.mul_fdiv_cancel_left (-k) (by omega)
theorem fdiv_pos_exact {p g : Int} (hg : 0 < g) : Int.fdiv p g = p / g := Int.fdiv_eq_ediv_of_nonneg p (by omega)
theorem rp_abs (p q : Int) (h : q ≠ 0) : (rp p q).natAbs ≤ p.natAbs := by
  have := abs_div_le (p := p) (gg_pos (p := p) h)
  unfold rp
  split <;> omega
theorem rq_abs (p q : Int) (h : q ≠ 0) : (rq p q).natAbs ≤ q.natAbs := by
  have := abs_div_le (p := q) (gg_pos (p := p) h)
  unfold rq
  split <;> omega
theorem rq_pos (p q : Int) (h : q ≠ 0) : 0 < rq p q := by
  have hg := gg_pos (p := p) h
  obtain ⟨k, hk⟩ := gg_dvd_r p q
  have e : q / gg p q = k := Int.ediv_eq_of_eq_mul_right (by omega) hk
  unfold rq
  rw [e]
  by_cases hq : q < 0
  · rw [if_pos hq]
    have : k < 0 := by
      rcases (by omega : k < 0 ∨ 0 ≤ k) with h1 | h1
      · exact h1
      · have : 0 ≤ gg p q * k := Int.mul_nonneg (by omega) h1
        omega
    omega
  · rw [if_neg hq]
    rcases (by omega : 0 < k ∨ k ≤ 0) with h1 | h1
    · exact h1
    · have h2 : gg p q * k ≤ 0 := Int.mul_nonpos_of_nonneg_of_nonpos (by omega) h1
      omega
theorem rp_mul (p q : Int) (h : q ≠ 0) : rp p q * q = p * rq p q := by
  have hg := gg_pos (p := p) h
  obtain ⟨k, hk⟩ := gg_dvd_r p q
  obtain ⟨l, hl⟩ := gg_dvd_l p q
  have e : q / gg p q = k := Int.ediv_eq_of_eq_mul_right (by omega) hk
  have e2 : p / gg p q = l := Int.ediv_eq_of_eq_mul_right (by omega) hl
  have key : l * q = p * k := by
    generalize gg p q = g at hk hl
    subst hk hl
    rw [Int.mul_comm g l, Int.mul_assoc]
  unfold rp rq
  rw [e, e2]
  split
  · rw [Int.neg_mul, key, Int.mul_neg]
  · exact key

/-! the loop of Euclid -/
theorem euclid_step {m n : Nat} (hn : 0 < n) : Nat.gcd n (m % n) = Nat.gcd m n := by
  rw [Nat.gcd_comm n (m % n), Nat.gcd_comm m n]
  exact (Nat.gcd_rec n m).symm
structure Eu (g B i m n : Nat) : Prop where
  gcd : Nat.gcd m n = g
  lt : (i = 0 ∧ m * n ≤ B) ∨ n < m
  le : m * n * 2 ^ i ≤ 2 * B
theorem Eu.start {m n B : Nat} (h : m * n ≤ B) : Eu (Nat.gcd m n) B 0 m n := ⟨rfl, .inl ⟨rfl, h⟩, by simp; omega⟩
theorem Eu.step {g B i m n : Nat} (h : Eu g B i m n) (hn : 0 < n) : Eu g B (i + 1) n (m % n) := by
  refine ⟨(euclid_step hn).trans h.gcd, .inr (Nat.mod_lt _ hn), ?_⟩
  have hle := h.le
  rcases h.lt with e | e
  · obtain ⟨e, e'⟩ := e
    subst e
    have h1 : m % n ≤ m := Nat.mod_le _ _
    have h2 : n * (m % n) ≤ n * m := Nat.mul_le_mul_left _ h1
    have h3 : n * m = m * n := Nat.mul_comm _ _
    rw [Nat.zero_add, Nat.pow_one]
    omega
  · have h1 : 2 * (m % n) ≤ m := by
      have q1 := Nat.div_add_mod m n
      have q2 : m % n < n := Nat.mod_lt _ hn
      have q3 : 1 ≤ m / n := (Nat.le_div_iff_mul_le hn).mpr (by omega)
      have q4 : n * 1 ≤ n * (m / n) := Nat.mul_le_mul_left _ q3
      omega
    have h2 : n * (m % n) * 2 ^ (i + 1) = n * (2 * (m % n)) * 2 ^ i := by
      rw [Nat.pow_succ]
      simp only [Nat.mul_assoc, Nat.mul_comm, Nat.mul_left_comm]
    have h3 : n * (2 * (m % n)) ≤ n * m := Nat.mul_le_mul_left _ h1
    have h4 : n * (2 * (m % n)) * 2 ^ i ≤ n * m * 2 ^ i := Nat.mul_le_mul_right _ h3
    rw [h2, Nat.mul_comm n m] at *
    omega
theorem Eu.fin {g B m n : Nat} (h : Eu g B 5000 m n) (hB : B < 2 ^ 4990) : m = g := by
  have h0 : n = 0 := by
    rcases Nat.eq_zero_or_pos n with e | e
    · exact e
    · exfalso
      have hm : n < m := by
        rcases h.lt with q | q
        · cases q.1
        · exact q
      have h1 : 1 * 1 ≤ m * n := Nat.mul_le_mul (by omega) e
      have h2 : 1 * 2 ^ 5000 ≤ m * n * 2 ^ 5000 := Nat.mul_le_mul_right _ (by omega)
      have h3 := h.le
      have h4 : 2 * 2 ^ 4990 ≤ 1 * 2 ^ 5000 := by decide +kernel
      omega
  have := h.gcd
  rw [h0, Nat.gcd_zero_right] at this
  exact this
theorem Eu.done {g B i m : Nat} (h : Eu g B i m 0) : m = g := by
  have := h.gcd
  rw [Nat.gcd_zero_right] at this
  exact this

/-! sizes -/
theorem mulW {i j : Int} (hi : i.natAbs < 2 ^ 4000) (hj : j.natAbs < 2 ^ 4000) : CMulW i j := wide_mul hi hj (by decide) (by decide) (by decide)
theorem divW {i j : Int} (h : 0 < j) (hj : j.natAbs < 2 ^ 4000) : CDivW i j := wide_div h hj (by decide) (by decide)
/-- // by a divisor of either sign -/
def CDivS (_ j : Int) : Prop := j ≠ 0 ∧ j.natAbs.log2 < 9000
theorem op_fdivS {X : Cx} : OpR X (binaryOp .FloorDiv) (rI CDivS fun i j => .int (i.fdiv j)) := opI fun i j _ _ _ _ _ hc q =>
  floordiv_int hc.1 q (.inl (PyProof.noPylong_of_log2 hc.2))
theorem divS {i j : Int} (h : j ≠ 0) (hj : j.natAbs < 2 ^ 4000) : CDivS i j := ⟨h, Nat.lt_of_lt_of_le (PySem.Flt.log2_lt_of (by decide) hj) (by decide)⟩

/-! loops -/
section
variable {σ : L2.St} {H : Hp} {te : TE} {D : Ends} {g : TG} {tb : TS}
theorem g_forR (n : Int) (Pv : Nat → L2.St → Hp → Prop) (h : te σ H fun x H1 => x = .int n ∧ -(2 ^ 62) ≤ n ∧ n < 2 ^ 62 ∧ Pv 0 σ H1)
    (hs : ∀ (i : Nat) σ' H', (i : Int) < n → Pv i σ' H' → g (.int (i : Int)) σ' H' fun σ2 H2 => tb { D with nx := Pv (i + 1), ct := Pv (i + 1), bk := D.nx } σ2 H2)
    (hd : ∀ σ' H', Pv n.toNat σ' H' → D.nx σ' H') (mono : ∀ Q Q' : VK, (∀ x H1, Q x H1 → Q' x H1) → te σ H Q → te σ H Q') : tFor (iRng1 (tCons te tNil)) g tb D σ H := by
  refine mono _ _ (fun x H1 q => ?_) h
  obtain ⟨rfl, h1, h2, p⟩ := q
  show ∃ j : Int, [V.int n] = [V.int j] ∧ _
  refine ⟨n, rfl, h1, h2, for_range Pv p (fun i σ' H' hi p' => ?_) hd⟩
  have e0 : (0 : Int) + (i : Int) = (i : Int) := Int.zero_add _
  rw [e0]
  exact hs i σ' H' (by omega) p'
end

/-! promises -/
/-- the frame: what stood stands -/
def spGcd : Sp := fun vs H Q _ => ∃ (m n : Nat), vs = [.int (m : Int), .int (n : Int)] ∧ m * n < 2 ^ 4990 ∧ Q (.int ((Nat.gcd m n : Nat) : Int)) H
def spRat : Sp := fun vs H Q _ => ∃ (p q : Int), vs = [.int p, .int q] ∧ q ≠ 0 ∧ p.natAbs < 2 ^ 2000 ∧ q.natAbs < 2 ^ 2000 ∧ ∀ t, H t = none → Q (.ref t) (upd H t (.tup [.int (rp p q), .int (rq p q)]))
/-- a fraction stands at a -/
def FrAt (K : PySem.W.Frag) (H : Hp) (a : Addr) (p q : Int) : Prop := SqT K H a [.int p, .int q]
theorem rat_app {p q : Int} {H : Hp} {Q : VK} {E : XK} (h : q ≠ 0) (h1 : p.natAbs < 2 ^ 2000) (h2 : q.natAbs < 2 ^ 2000) (k : ∀ t, H t = none → Q (.ref t) (upd H t (.tup [.int (rp p q), .int (rq p q)]))) : spRat [.int p, .int q] H Q E :=
  ⟨p, q, rfl, h, h1, h2, k⟩
theorem draw_app {K : PySem.W.Frag} {d : Addr} {m : Int} {H : Hp} {Q : VK} {E : XK} (h : DeckAt K H d) (h1 : 0 < m) (h2 : m < 10 ^ 62) (k : ∀ v H', 0 ≤ v → v < m → DeckAt K H' d → Ex1 d H H' → Q (.int v) H') : spDraw K [.ref d, .int m] H Q E :=
  ⟨d, m, rfl, h, h1, h2, k⟩
theorem deck_app {K : PySem.W.Frag} {a : Addr} {ns : List Int} {H : Hp} {Q : VK} {E : XK} (h : SqL K H a (ns.map V.int)) (k : ∀ d H', H d = none → DeckAt K H' d → Same H H' → Q (.ref d) H') : spDeck K [.ref a] H Q E :=
  ⟨a, ns, rfl, h, k⟩
theorem DeckAt.ne {K : PySem.W.Frag} {H : Hp} {d p : Addr} (h : DeckAt K H d) (hp : H p = none) : p ≠ d := by
  obtain ⟨s, ns, a, b, c, h1, _⟩ := h
  exact fun e => by rw [e, h1] at hp; cases hp
theorem Same.t {K : PySem.W.Frag} {H H' : Hp} {a : Addr} {xs : List V} (e : Same H H') (h : SqT K H a xs) : SqT K H' a xs := by
  rcases h with (h | ⟨o, h⟩) | h
  · exact .inl (.inl (e _ _ h))
  · exact .inl (.inr ⟨o, e _ _ h⟩)
  · exact .inr h

theorem at_int {ns : List Int} {i : Int} (h0 : 0 ≤ i) (h : i < ns.length) : ∃ n, atI (ns.map V.int) i = some (.int n) := by
  obtain ⟨k, rfl⟩ : ∃ k : Nat, i = (k : Int) := ⟨i.toNat, by omega⟩
  have hk : k < ns.length := by omega
  refine ⟨ns[k], atI_nat ?_⟩
  rw [List.getElem?_map, List.getElem?_eq_getElem hk]
  rfl

theorem natAbs_ediv_of_dvd {p g : Int} (hg : 0 < g) (hd : g ∣ p) : (p / g).natAbs = p.natAbs / g.natAbs := by
  obtain ⟨k, rfl⟩ := hd
  rw [Int.mul_ediv_cancel_left k (by omega), Int.natAbs_mul, Nat.mul_div_cancel_left _ (by omega)]
theorem rat_cop (p q : Int) (h : q ≠ 0) : Nat.gcd (rp p q).natAbs (rq p q).natAbs = 1 := by
  have hg := gg_pos (p := p) h
  have e : (gg p q).natAbs = Nat.gcd p.natAbs q.natAbs := rfl
  have h0 : 0 < Nat.gcd p.natAbs q.natAbs := by omega
  have key : Nat.gcd (p / gg p q).natAbs (q / gg p q).natAbs = 1 := by
    rw [natAbs_ediv_of_dvd hg (gg_dvd_l p q), natAbs_ediv_of_dvd hg (gg_dvd_r p q), e]
    exact Nat.gcd_div_gcd_div_gcd_of_pos_right (by omega)
  unfold rp rq
  split
  · rw [Int.natAbs_neg, Int.natAbs_neg]
    exact key
  · exact key
/-- a drawn fraction -/
structure Fra (n e : Int) : Prop where
  pos : 0 < e
  bn : n.natAbs ≤ 10 ^ 12
  be : e.natAbs ≤ 10 ^ 12
  cop : Nat.gcd n.natAbs e.natAbs = 1
theorem big12 {x : Int} (h : x.natAbs ≤ 10 ^ 12) : x.natAbs < 2 ^ 2000 := by
  have : (10 : Nat) ^ 12 < 2 ^ 2000 := by decide +kernel
  omega
theorem big40 {x : Int} (h : x.natAbs < 2 ^ 2000) : x.natAbs < 2 ^ 4000 := by
  have : (2 : Nat) ^ 2000 < 2 ^ 4000 := by decide +kernel
  omega
theorem Fra.int {n : Int} (h : n.natAbs ≤ 10 ^ 12) : Fra n 1 := ⟨by decide, h, by decide, Nat.gcd_one_right _⟩
theorem Fra.rat {p q : Int} (h : q ≠ 0) (h1 : p.natAbs ≤ 10 ^ 12) (h2 : q.natAbs ≤ 10 ^ 12) : Fra (rp p q) (rq p q) :=
  ⟨rq_pos p q h, Nat.le_trans (rp_abs p q h) h1, Nat.le_trans (rq_abs p q h) h2, rat_cop p q h⟩
def spBig (K : PySem.W.Frag) : Sp := fun vs H Q _ => ∃ (d : Addr), vs = [.ref d] ∧ DeckAt K H d ∧ ∀ t H' n e, DeckAt K H' d → Ex1 d H H' → t ≠ d → SqT K H' t [.int n, .int e] → Fra n e → Q (.ref t) H'
theorem big_app {K : PySem.W.Frag} {d : Addr} {H : Hp} {Q : VK} {E : XK} (h : DeckAt K H d) (k : ∀ t H' n e, DeckAt K H' d → Ex1 d H H' → t ≠ d → SqT K H' t [.int n, .int e] → Fra n e → Q (.ref t) H') : spBig K [.ref d] H Q E := ⟨d, rfl, h, k⟩
def sg (x : Int) : Int := if 0 < x then 1 else if x < 0 then -1 else 0
theorem sg_neg (x : Int) : sg (-x) = -sg x := by
  unfold sg
  rcases (by omega : x < 0 ∨ x = 0 ∨ 0 < x) with h | h | h
  · rw [if_pos (by omega), if_neg (by omega), if_pos h]; rfl
  · subst h; rfl
  · rw [if_neg (by omega), if_pos (by omega), if_pos h]

def spCmp (K : PySem.W.Frag) : Sp := fun vs H Q _ => ∃ (a b : Addr) (n e m k : Int), vs = [.ref a, .ref b] ∧ SqT K H a [.int n, .int e] ∧ SqT K H b [.int m, .int k] ∧
  n.natAbs < 2 ^ 4000 ∧ e.natAbs < 2 ^ 4000 ∧ m.natAbs < 2 ^ 4000 ∧ k.natAbs < 2 ^ 4000 ∧ Q (.int (sg (n * k - m * e))) H
theorem cmp_app {K : PySem.W.Frag} {a b : Addr} {n e m k : Int} {H : Hp} {Q : VK} {E : XK} (h1 : SqT K H a [.int n, .int e]) (h2 : SqT K H b [.int m, .int k])
  (f1 : Fra n e) (f2 : Fra m k) (q : Q (.int (sg (n * k - m * e))) H) : spCmp K [.ref a, .ref b] H Q E :=
  ⟨a, b, n, e, m, k, rfl, h1, h2, big40 (big12 f1.bn), big40 (big12 f1.be), big40 (big12 f2.bn), big40 (big12 f2.be), q⟩
def spDown (K : PySem.W.Frag) : Sp := fun vs H Q _ => ∃ (a : Addr) (n e : Int), vs = [.ref a] ∧ SqT K H a [.int n, .int e] ∧ 0 < e ∧ e.natAbs < 2 ^ 4000 ∧ Q (.int (n / e)) H
def spNear (K : PySem.W.Frag) : Sp := fun vs H Q _ => ∃ (a : Addr) (n e : Int), vs = [.ref a] ∧ SqT K H a [.int n, .int e] ∧ 0 < e ∧ (2 * e).natAbs < 2 ^ 4000 ∧ Q (.int ((2 * n + e) / (2 * e))) H
theorem down_app {K : PySem.W.Frag} {a : Addr} {n e : Int} {H : Hp} {Q : VK} {E : XK} (h1 : SqT K H a [.int n, .int e]) (f1 : Fra n e) (q : Q (.int (n / e)) H) : spDown K [.ref a] H Q E := ⟨a, n, e, rfl, h1, f1.pos, big40 (big12 f1.be), q⟩
theorem near_app {K : PySem.W.Frag} {a : Addr} {n e : Int} {H : Hp} {Q : VK} {E : XK} (h1 : SqT K H a [.int n, .int e]) (f1 : Fra n e) (q : Q (.int ((2 * n + e) / (2 * e))) H) : spNear K [.ref a] H Q E :=
  ⟨a, n, e, rfl, h1, f1.pos, by
    have h2 := f1.be
    have h3 : (2 : Nat) * 10 ^ 12 < 2 ^ 4000 := by decide +kernel
    omega, q⟩
def spIsInt : Sp := fun vs H Q _ => ∃ (i : Int), vs = [.int i] ∧ Q (.bl true) H
theorem isint_app {i : Int} {H : Hp} {Q : VK} {E : XK} (q : Q (.bl true) H) : spIsInt [.int i] H Q E := ⟨i, rfl, q⟩
def spSameI : Sp := fun vs H Q _ => ∃ (i j : Int), vs = [.int i, .int j] ∧ Q (.bl (decide (i = j))) H
theorem sameI_app {i j : Int} {H : Hp} {Q : VK} {E : XK} (q : Q (.bl (decide (i = j))) H) : spSameI [.int i, .int j] H Q E := ⟨i, j, rfl, q⟩

theorem fra_app {p q : Int} {H : Hp} {Q : VK} {E : XK} (h : q ≠ 0) (h1 : p.natAbs ≤ 10 ^ 12) (h2 : q.natAbs ≤ 10 ^ 12) (k : ∀ t n e, H t = none → Fra n e → Q (.ref t) (upd H t (.tup [.int n, .int e]))) : spRat [.int p, .int q] H Q E :=
  rat_app h (big12 h1) (big12 h2) fun t ht => k t _ _ ht (Fra.rat h h1 h2)
theorem down2_app {K : PySem.W.Frag} {a : Addr} {n e : Int} {H : Hp} {Q : VK} {E : XK} (h1 : SqT K H a [.int n, .int e]) (f1 : Fra n e)
    (q : ∀ v, v.natAbs < 2 ^ 4000 → (v + 1).natAbs < 2 ^ 4000 → e.natAbs < 2 ^ 4000 → v * e ≤ n → n < (v + 1) * e → Q (.int v) H) : spDown K [.ref a] H Q E := by
  have hp := f1.pos
  have b1 := f1.bn
  have b2 := f1.be
  have big : (10 : Nat) ^ 12 + 1 < 2 ^ 4000 := by decide +kernel
  have b3 : (n / e).natAbs ≤ n.natAbs := Int.natAbs_ediv_le_natAbs n e
  refine down_app h1 f1 (q _ (by omega) (by omega) (by omega) ?_ ?_)
  · exact Int.ediv_mul_le n (by omega)
  · exact Int.lt_ediv_add_one_mul_self n hp
theorem near2_app {K : PySem.W.Frag} {a : Addr} {n e : Int} {H : Hp} {Q : VK} {E : XK} (h1 : SqT K H a [.int n, .int e]) (f1 : Fra n e)
    (q : ∀ v, (2 * v).natAbs < 2 ^ 4000 → e.natAbs < 2 ^ 4000 → 2 * v * e ≤ 2 * n + e → 2 * n - e < 2 * v * e → Q (.int v) H) : spNear K [.ref a] H Q E := by
  have hp := f1.pos
  have b1 := f1.bn
  have b2 := f1.be
  have big : (10 : Nat) ^ 14 < 2 ^ 4000 := by decide +kernel
  have b3 : ((2 * n + e) / (2 * e)).natAbs ≤ (2 * n + e).natAbs := Int.natAbs_ediv_le_natAbs _ _
  have c1 := Int.ediv_mul_le (2 * n + e) (b := 2 * e) (by omega)
  have c2 := Int.lt_ediv_add_one_mul_self (2 * n + e) (b := 2 * e) (by omega)
  generalize hv : (2 * n + e) / (2 * e) = v at *
  have e1 : v * (2 * e) = 2 * v * e := by rw [Int.mul_left_comm, Int.mul_assoc]
  have e2 : (v + 1) * (2 * e) = 2 * v * e + 2 * e := by rw [Int.add_mul, e1, Int.one_mul]
  refine near_app h1 f1 ?_
  rw [hv]
  exact q v (by omega) (by omega) (by omega) (by omega)

theorem sg_opp (x y : Int) : sg (x - y) = -sg (y - x) := by
  rw [← sg_neg]
  congr 1
  omega
theorem of_dec {p : Prop} [Decidable p] {Q : VK} {H : Hp} (h : p) (q : Q (.bl true) H) : Q (.bl (decide p)) H := by
  rw [decide_eq_true h]
  exact q
theorem DeckAt.ne' {K : PySem.W.Frag} {H : Hp} {d p : Addr} (hp : H p = none) (h : DeckAt K H d) : p ≠ d := h.ne hp
end Fl

set_option Elab.async false
set_option linter.all false
set_option maxRecDepth 100000
set_option maxHeartbeats 4000000
set_option exponentiation.threshold 20000
/-! fractions as numbers -/
namespace Fl
open PySem PySem.Spec PyProof.Rows L2

theorem gg_comm (p q : Int) : gg p q = ((Int.gcd q p : Nat) : Int) := by
  unfold gg Int.gcd
  rw [Nat.gcd_comm]
theorem rp_num {p q : Int} (h : q ≠ 0) : rp p q = (Rat.divInt p q).num := by
  rw [Rat.num_divInt, ← gg_comm]
  have hg := gg_pos (p := p) h
  obtain ⟨k, hk⟩ := gg_dvd_l p q
  have e : p / gg p q = k := Int.ediv_eq_of_eq_mul_right (by omega) hk
  unfold rp
  rw [e]
  split
  · rename_i hq
    rw [Int.sign_eq_neg_one_of_neg hq]
    refine (Int.ediv_eq_of_eq_mul_right (by omega) ?_).symm
    rw [Int.mul_neg, ← hk, Int.neg_mul, Int.one_mul]
  · rw [Int.sign_eq_one_of_pos (by omega), Int.one_mul, e]
theorem rq_den {p q : Int} (h : q ≠ 0) : rq p q = ((Rat.divInt p q).den : Int) := by
  rw [Rat.den_divInt, if_neg h]
  have hg := gg_pos (p := p) h
  obtain ⟨k, hk⟩ := gg_dvd_r p q
  have e : q / gg p q = k := Int.ediv_eq_of_eq_mul_right (by omega) hk
  have e2 : ((q.natAbs / Int.gcd q p : Nat) : Int) = (q.natAbs : Int) / gg p q := by
    rw [gg_comm]
    exact Int.natCast_ediv _ _
  rw [e2]
  unfold rq
  rw [e]
  split
  · rename_i hq
    refine (Int.ediv_eq_of_eq_mul_right (by omega) ?_).symm
    rw [Int.mul_neg, ← hk]
    omega
  · refine (Int.ediv_eq_of_eq_mul_right (by omega) ?_).symm
    rw [← hk]
    omega

/-- the fraction x stands at a -/
def RV (K : PySem.W.Frag) (H : Hp) (a : Addr) (x : Rat) : Prop := SqT K H a [.int x.num, .int (x.den : Int)]
theorem RV.ex1 {K : PySem.W.Frag} {d : Addr} {H H' : Hp} {a : Addr} {x : Rat} (e : Ex1 d H H') (n : a ≠ d) (h : RV K H a x) : RV K H' a x := Ex1.t e n h
theorem RV.same {K : PySem.W.Frag} {H H' : Hp} {a : Addr} {x : Rat} (e : Same H H') (h : RV K H a x) : RV K H' a x := Same.t e h
theorem RV.sq {K : PySem.W.Frag} {H : Hp} {a : Addr} {x : Rat} (h : RV K H a x) : SqT K H a [.int x.num, .int (x.den : Int)] := h
/-- of moderate size -/
structure Md (x : Rat) : Prop where
  n : x.num.natAbs < 2 ^ 900
  d : x.den < 2 ^ 900
structure Szq (k : Nat) (x : Rat) : Prop where
  n : x.num.natAbs < 2 ^ k
  d : x.den < 2 ^ k
theorem Szq.md {k : Nat} {x : Rat} (h : Szq k x) (hk : k ≤ 900) : Md x :=
  ⟨Nat.lt_of_lt_of_le h.n (Nat.pow_le_pow_right (by decide) hk), Nat.lt_of_lt_of_le h.d (Nat.pow_le_pow_right (by decide) hk)⟩
theorem szq_div {p q : Int} {k : Nat} (h : q ≠ 0) (h1 : p.natAbs < 2 ^ k) (h2 : q.natAbs < 2 ^ k) : Szq k (Rat.divInt p q) := by
  have e1 := rp_abs p q h
  have e2 := rq_abs p q h
  rw [rp_num h] at e1
  rw [rq_den h] at e2
  exact ⟨by omega, by omega⟩
theorem pw_add {a b j k : Nat} (ha : a < 2 ^ j) (hb : b < 2 ^ k) : a * b < 2 ^ (j + k) := by
  rw [Nat.pow_add]
  exact Nat.mul_lt_mul'' ha hb
theorem add_div (x y : Rat) : Rat.divInt (x.num * y.den + y.num * x.den) ((x.den : Int) * y.den) = x + y := by
  rw [Rat.add_def', ← Rat.divInt_ofNat, Int.natCast_mul]
theorem sub_div (x y : Rat) : Rat.divInt (x.num * y.den - y.num * x.den) ((x.den : Int) * y.den) = x - y := by
  rw [Rat.sub_def', ← Rat.divInt_ofNat, Int.natCast_mul]
theorem mul_div' (x y : Rat) : Rat.divInt (x.num * y.num) ((x.den : Int) * y.den) = x * y := by
  rw [Rat.mul_def', ← Rat.divInt_ofNat, Int.natCast_mul]
theorem div_div' (x y : Rat) : Rat.divInt (x.num * y.den) ((x.den : Int) * y.num) = x / y := by
  rw [Rat.div_def, Rat.inv_def]
  conv => rhs; rw [← Rat.num_divInt_den x]
  rw [Rat.divInt_mul_divInt]
theorem den0 (x : Rat) : (x.den : Int) ≠ 0 := by
  have := x.den_nz
  omega
theorem sz_cross {x y : Rat} {j k : Nat} (hx : Szq j x) (hy : Szq k y) : (x.num * y.den).natAbs < 2 ^ (j + k) ∧ (y.num * x.den).natAbs < 2 ^ (j + k) ∧ ((x.den : Int) * y.den).natAbs < 2 ^ (j + k) ∧ (x.num * y.num).natAbs < 2 ^ (j + k) ∧ ((x.den : Int) * y.num).natAbs < 2 ^ (j + k) := by
  simp only [Int.natAbs_mul, Int.natAbs_natCast]
  refine ⟨pw_add hx.n hy.d, ?_, pw_add hx.d hy.d, pw_add hx.n hy.n, pw_add hx.d hy.n⟩
  rw [Nat.mul_comm]
  exact pw_add hx.d hy.n
theorem Szq.add {x y : Rat} {j k : Nat} (hx : Szq j x) (hy : Szq k y) : Szq (j + k + 1) (x + y) := by
  obtain ⟨h1, h2, h3, h4, h5⟩ := sz_cross hx hy
  rw [← add_div]
  have e : 2 ^ (j + k + 1) = 2 * 2 ^ (j + k) := by rw [Nat.pow_succ, Nat.mul_comm]
  exact szq_div (Int.mul_ne_zero (den0 x) (den0 y)) (by omega) (by omega)
theorem Szq.sub {x y : Rat} {j k : Nat} (hx : Szq j x) (hy : Szq k y) : Szq (j + k + 1) (x - y) := by
  obtain ⟨h1, h2, h3, h4, h5⟩ := sz_cross hx hy
  rw [← sub_div]
  have e : 2 ^ (j + k + 1) = 2 * 2 ^ (j + k) := by rw [Nat.pow_succ, Nat.mul_comm]
  exact szq_div (Int.mul_ne_zero (den0 x) (den0 y)) (by omega) (by omega)
theorem Szq.mul {x y : Rat} {j k : Nat} (hx : Szq j x) (hy : Szq k y) : Szq (j + k) (x * y) := by
  obtain ⟨h1, h2, h3, h4, h5⟩ := sz_cross hx hy
  rw [← mul_div']
  exact szq_div (Int.mul_ne_zero (den0 x) (den0 y)) (by omega) (by omega)
theorem num0 {x : Rat} (h : x ≠ 0) : x.num ≠ 0 := fun e => h (Rat.num_eq_zero.mp e)
theorem Szq.div {x y : Rat} {j k : Nat} (hx : Szq j x) (hy : Szq k y) (h : y ≠ 0) : Szq (j + k) (x / y) := by
  obtain ⟨h1, h2, h3, h4, h5⟩ := sz_cross hx hy
  rw [← div_div']
  exact szq_div (Int.mul_ne_zero (den0 x) (num0 h)) (by omega) (by omega)
theorem Fra.rat_of {n e : Int} (h : Fra n e) : ∃ x : Rat, x.num = n ∧ (x.den : Int) = e ∧ Szq 41 x := by
  have hp := h.pos
  obtain ⟨k, rfl⟩ : ∃ k : Nat, e = (k : Int) := ⟨e.toNat, by omega⟩
  refine ⟨⟨n, k, by omega, h.cop⟩, rfl, rfl, ?_, ?_⟩
  · have := h.bn
    show n.natAbs < _
    have e : (10 : Nat) ^ 12 < 2 ^ 41 := by decide
    omega
  · have := h.be
    show k < _
    have e : (10 : Nat) ^ 12 < 2 ^ 41 := by decide
    omega

/-! promises -/
def spRatP : Sp := spRat
def spBin (K : PySem.W.Frag) (f : Rat → Rat → Rat) (pre : Rat → Rat → Prop) : Sp := fun vs H Q _ => ∃ (a b : Addr) (x y : Rat), vs = [.ref a, .ref b] ∧ RV K H a x ∧ RV K H b y ∧ Md x ∧ Md y ∧ pre x y ∧
  ∀ t H', H t = none → Same H H' → RV K H' t (f x y) → Q (.ref t) H'
theorem bin_app {K : PySem.W.Frag} {f : Rat → Rat → Rat} {pre : Rat → Rat → Prop} {a b : Addr} {x y : Rat} {H : Hp} {Q : VK} {E : XK} (h1 : RV K H a x) (h2 : RV K H b y) (m1 : Md x) (m2 : Md y) (hp : pre x y)
  (k : ∀ t H', H t = none → Same H H' → RV K H' t (f x y) → Q (.ref t) H') : spBin K f pre [.ref a, .ref b] H Q E := ⟨a, b, x, y, rfl, h1, h2, m1, m2, hp, k⟩
def cq (x y : Rat) : Int := if x < y then -1 else if y < x then 1 else 0
def spCq (K : PySem.W.Frag) : Sp := fun vs H Q _ => ∃ (a b : Addr) (x y : Rat), vs = [.ref a, .ref b] ∧ RV K H a x ∧ RV K H b y ∧ Md x ∧ Md y ∧ Q (.int (cq x y)) H
theorem cq_app {K : PySem.W.Frag} {a b : Addr} {x y : Rat} {H : Hp} {Q : VK} {E : XK} (h1 : RV K H a x) (h2 : RV K H b y) (m1 : Md x) (m2 : Md y) (q : Q (.int (cq x y)) H) : spCq K [.ref a, .ref b] H Q E := ⟨a, b, x, y, rfl, h1, h2, m1, m2, q⟩
theorem cq_add (x y z : Rat) : cq (x + z) (y + z) = cq x y := by
  unfold cq
  simp only [Rat.add_lt_add_right]
def nr (x : Rat) : Int := (2 * x.num + x.den) / (2 * x.den)
def spNr (K : PySem.W.Frag) : Sp := fun vs H Q _ => ∃ (a : Addr) (x : Rat), vs = [.ref a] ∧ RV K H a x ∧ Md x ∧ Q (.int (nr x)) H
theorem nr_app {K : PySem.W.Frag} {a : Addr} {x : Rat} {H : Hp} {Q : VK} {E : XK} (h1 : RV K H a x) (m1 : Md x) (q : Q (.int (nr x)) H) : spNr K [.ref a] H Q E := ⟨a, x, rfl, h1, m1, q⟩
def spRatq (K : PySem.W.Frag) : Sp := fun vs H Q _ => ∃ (p q : Int), vs = [.int p, .int q] ∧ q ≠ 0 ∧ p.natAbs < 2 ^ 1900 ∧ q.natAbs < 2 ^ 1900 ∧ ∀ t H', H t = none → Same H H' → RV K H' t (Rat.divInt p q) → Q (.ref t) H'
theorem ratq_app {K : PySem.W.Frag} {p q : Int} {H : Hp} {Q : VK} {E : XK} (h : q ≠ 0) (h1 : p.natAbs < 2 ^ 1900) (h2 : q.natAbs < 2 ^ 1900) (k : ∀ t H', H t = none → Same H H' → RV K H' t (Rat.divInt p q) → Q (.ref t) H') : spRatq K [.int p, .int q] H Q E := ⟨p, q, rfl, h, h1, h2, k⟩
theorem nr_add (x : Rat) (w : Int) : nr (x + Rat.divInt w 1) = nr x + w := by
  generalize hy : x + Rat.divInt w 1 = y
  have key : y.num * x.den = (x.num + w * x.den) * y.den := by
    have e : Rat.divInt (x.num + w * x.den) x.den = y := by
      rw [← hy]
      conv => rhs; lhs; rw [← Rat.num_divInt_den x]
      rw [Rat.divInt_add_divInt _ _ (den0 x) (by decide), Int.mul_one, Int.mul_one]
    rw [← Rat.num_divInt_den y] at e
    exact ((Rat.divInt_eq_divInt_iff (den0 x) (den0 y)).mp e).symm
  unfold nr
  have hx := x.den_pos
  have hyp := y.den_pos
  generalize x.num = n at *
  generalize (y.num) = m at *
  have hx' : (0 : Int) < x.den := by omega
  have hy' : (0 : Int) < y.den := by omega
  generalize (x.den : Int) = e at *
  generalize (y.den : Int) = k at *
  have c1 := Int.ediv_mul_le (2 * n + e) (b := 2 * e) (by omega)
  have c2 := Int.lt_ediv_add_one_mul_self (2 * n + e) (b := 2 * e) (by omega)
  generalize (2 * n + e) / (2 * e) = v at *
  have g1 : (v + w) * (2 * k) ≤ 2 * m + k := by
    refine Int.le_of_mul_le_mul_right (a := e) ?_ hx'
    have h1 : v * (2 * e) * k ≤ (2 * n + e) * k := Int.mul_le_mul_of_nonneg_right c1 (by omega)
    have e1 : (v + w) * (2 * k) * e = v * (2 * e) * k + 2 * (w * e * k) := by grind
    have e2 : (2 * m + k) * e = 2 * (m * e) + k * e := by grind
    rw [e1, e2, key]
    have e3 : 2 * ((n + w * e) * k) + k * e = (2 * n + e) * k + 2 * (w * e * k) := by grind
    rw [e3]
    omega
  have g2 : 2 * m + k < (v + w + 1) * (2 * k) := by
    refine Int.lt_of_mul_lt_mul_right (a := e) ?_ (by omega)
    have h1 : (2 * n + e) * k < (v + 1) * (2 * e) * k := Int.mul_lt_mul_of_pos_right c2 hy'
    have e1 : (v + w + 1) * (2 * k) * e = (v + 1) * (2 * e) * k + 2 * (w * e * k) := by grind
    have e2 : (2 * m + k) * e = 2 * (m * e) + k * e := by grind
    rw [e1, e2, key]
    have e3 : 2 * ((n + w * e) * k) + k * e = (2 * n + e) * k + 2 * (w * e * k) := by grind
    rw [e3]
    omega
  have f1 : v + w ≤ (2 * m + k) / (2 * k) := (Int.le_ediv_iff_mul_le (by omega)).mpr g1
  have f2 : (2 * m + k) / (2 * k) < v + w + 1 := (Int.ediv_lt_iff_lt_mul (by omega)).mpr g2
  omega
/-- != of two fractions that are the same number -/
theorem ne_app {K : PySem.W.Frag} {a b : Addr} {x y : Rat} {H : Hp} {Q : VK} (h1 : RV K H a x) (h2 : RV K H b y) (e : x = y) (q : Q (.bl false) H) : rNeD K (.ref a) (.ref b) H Q := by
  subst e
  have d1 : ∀ {a : Addr}, RV K H a x → Dp K H (.ref a) (.tuple [.int x.num, .int x.den]) := fun h => .tup h (.cons (.int _) (.cons (.int _) .nil))
  refine ⟨_, _, d1 h1, d1 h2, rfl, rfl, ?_⟩
  have e2 : PyData.eqv (.tuple [.int x.num, .int x.den]) (.tuple [.int x.num, .int x.den]) = true := SeqAt.eqv_refl _ rfl
  rw [e2]
  exact q
theorem g_neD {r : R2} {x y : V} {H : Hp} {Q : VK} (h : r x y H Q) : r x y H Q := h

theorem Md.big {x : Rat} (h : Md x) : x.num.natAbs < 2 ^ 4000 ∧ ((x.den : Int)).natAbs < 2 ^ 4000 := by
  have h1 := h.n
  have h2 := h.d
  have e : (2 : Nat) ^ 900 < 2 ^ 4000 := by decide +kernel
  constructor <;> omega
theorem md_cross {x y : Rat} (hx : Md x) (hy : Md y) : (x.num * y.den + y.num * x.den).natAbs < 2 ^ 1900 ∧ (x.num * y.den - y.num * x.den).natAbs < 2 ^ 1900 ∧ ((x.den : Int) * y.den).natAbs < 2 ^ 1900 ∧ (x.num * y.num).natAbs < 2 ^ 1900 ∧ ((x.den : Int) * y.num).natAbs < 2 ^ 1900 ∧ (x.num * y.den).natAbs < 2 ^ 1900 := by
  obtain ⟨h1, h2, h3, h4, h5⟩ := sz_cross (j := 900) (k := 900) ⟨hx.n, hx.d⟩ ⟨hy.n, hy.d⟩
  have e : 2 * 2 ^ (900 + 900) < (2 : Nat) ^ 1900 := by decide +kernel
  refine ⟨?_, ?_, ?_, ?_, ?_, ?_⟩ <;> omega

theorem bigq_app {K : PySem.W.Frag} {d : Addr} {H : Hp} {Q : VK} {E : XK} (h : DeckAt K H d) (k : ∀ t H' (x : Rat), DeckAt K H' d → Ex1 d H H' → t ≠ d → RV K H' t x → Szq 41 x → Q (.ref t) H') : spBig K [.ref d] H Q E := by
  refine big_app h fun t H' n e hD hE hn hS hF => ?_
  obtain ⟨x, rfl, rfl, hz⟩ := hF.rat_of
  exact k t H' x hD hE hn hS hz
theorem ne_of_num {x : Rat} (h : ¬ x.num = 0) : x ≠ 0 := fun e => h (by rw [e]; rfl)
end Fl

set_option Elab.async false
set_option linter.all false
set_option maxRecDepth 100000
set_option maxHeartbeats 4000000
set_option exponentiation.threshold 20000
/-! data at any depth, apart from the addresses S that are being written -/
namespace Fl
open PySem PySem.Spec PyProof.Rows L2

mutual
inductive Dq (S : List Addr) (H : Hp) : V → PyData → Prop
  | non : Dq S H .non .none
  | bl (b : Bool) : Dq S H (.bl b) (.bool b)
  | int (i : Int) : Dq S H (.int i) (.int i)
  | str (x : Str) : Dq S H (.str x) (.str x)
  | lst {a : Addr} {xs : List V} {ds : List PyData} : a ∉ S → H a = some (.lst xs) → DqA S H xs ds → Dq S H (.ref a) (.list ds)
  | tup {a : Addr} {xs : List V} {ds : List PyData} : a ∉ S → H a = some (.tup xs) → DqA S H xs ds → Dq S H (.ref a) (.tuple ds)
  | ins {a C dx : Addr} {fs : List (Str × V)} {ds : List (PyData × PyData)} : a ∉ S → H a = some (.ins C dx fs) → DqF S H fs ds → Dq S H (.ref a) (.dict ((.none, .int (C : Int)) :: ds))
inductive DqA (S : List Addr) (H : Hp) : List V → List PyData → Prop
  | nil : DqA S H [] []
  | cons {v : V} {vs : List V} {d : PyData} {ds : List PyData} : Dq S H v d → DqA S H vs ds → DqA S H (v :: vs) (d :: ds)
inductive DqF (S : List Addr) (H : Hp) : List (Str × V) → List (PyData × PyData) → Prop
  | nil : DqF S H [] []
  | cons {n : Str} {v : V} {fs : List (Str × V)} {d : PyData} {ds : List (PyData × PyData)} : Dq S H v d → DqF S H fs ds → DqF S H ((n, v) :: fs) ((.str n, d) :: ds)
end
mutual
theorem Dq.to {S S' : List Addr} {H H' : Hp} (k : ∀ a o, a ∉ S → H a = some o → a ∉ S' ∧ H' a = some o) : ∀ {v : V} {d : PyData}, Dq S H v d → Dq S' H' v d
  | _, _, .non => .non
  | _, _, .bl b => .bl b
  | _, _, .int i => .int i
  | _, _, .str x => .str x
  | _, _, .lst n h r => .lst (k _ _ n h).1 (k _ _ n h).2 (DqA.to k r)
  | _, _, .tup n h r => .tup (k _ _ n h).1 (k _ _ n h).2 (DqA.to k r)
  | _, _, .ins n h r => .ins (k _ _ n h).1 (k _ _ n h).2 (DqF.to k r)
theorem DqA.to {S S' : List Addr} {H H' : Hp} (k : ∀ a o, a ∉ S → H a = some o → a ∉ S' ∧ H' a = some o) : ∀ {vs : List V} {ds : List PyData}, DqA S H vs ds → DqA S' H' vs ds
  | _, _, .nil => .nil
  | _, _, .cons h r => .cons (Dq.to k h) (DqA.to k r)
theorem DqF.to {S S' : List Addr} {H H' : Hp} (k : ∀ a o, a ∉ S → H a = some o → a ∉ S' ∧ H' a = some o) : ∀ {fs : List (Str × V)} {ds : List (PyData × PyData)}, DqF S H fs ds → DqF S' H' fs ds
  | _, _, .nil => .nil
  | _, _, .cons h r => .cons (Dq.to k h) (DqF.to k r)
end
mutual
theorem Dq.dp {S : List Addr} {H : Hp} {K : PySem.W.Frag} : ∀ {v : V} {d : PyData}, Dq S H v d → d.hasDict = false → Dp K H v d
  | _, _, .non, _ => .non
  | _, _, .bl b, _ => .bl b
  | _, _, .int i, _ => .int i
  | _, _, .str x, _ => .str x
  | _, _, .lst _ h r, n => .lst (SqL.of h) (DqA.dp r (by simpa [PyData.hasDict] using n))
  | _, _, .tup _ h r, n => .tup (SqT.of h) (DqA.dp r (by simpa [PyData.hasDict] using n))
  | _, _, .ins _ _ _, n => by simp [PyData.hasDict] at n
theorem DqA.dp {S : List Addr} {H : Hp} {K : PySem.W.Frag} : ∀ {vs : List V} {ds : List PyData}, DqA S H vs ds → PyData.hasDictAll ds = false → DpAll K H vs ds
  | _, _, .nil, _ => .nil
  | _, _, .cons h r, n => .cons (Dq.dp h (by simp [PyData.hasDictAll] at n; exact n.1)) (DqA.dp r (by simp [PyData.hasDictAll] at n; exact n.2))
end
mutual
theorem nodict_lay : ∀ d : PyData, d.canLay0 = true → d.hasDict = false
  | .none, _ | .bool _, _ | .int _, _ | .str _, _ => rfl
  | .list xs, h => by
    simp only [PyData.hasDict]
    exact nodictAll_lay xs (by simpa [PyData.canLay0] using h)
  | .tuple xs, h => by
    simp only [PyData.hasDict]
    exact nodictAll_lay xs (by simpa [PyData.canLay0] using h)
  | .dict _, h => by simp [PyData.canLay0] at h
theorem nodictAll_lay : ∀ ds : List PyData, PyData.canLayAll0 ds = true → PyData.hasDictAll ds = false
  | [], _ => rfl
  | d :: ds, h => by
    simp [PyData.canLayAll0] at h
    simp [PyData.hasDictAll, nodict_lay d h.1, nodictAll_lay ds h.2]
end
theorem nodict_sh {d : PyData} (h : SeqAt.shaped d = true) : d.hasDict = false := by
  unfold SeqAt.shaped at h
  simp only [Bool.and_eq_true] at h
  exact nodict_lay d h.1
/-- all but what stands at S stands -/
def Fr (S : List Addr) (H H' : Hp) : Prop := ∀ a o, a ∉ S → H a = some o → H' a = some o
/-- these are there -/
def Al (S : List Addr) (H : Hp) : Prop := ∀ a, a ∈ S → H a ≠ none
section
variable {S T : List Addr} {H H' H2 : Hp} {a p D : Addr} {v : V} {d : PyData} {vs ws : List V} {ds es : List PyData} {o : HO}
theorem Fr.refl : Fr S H H := fun _ _ _ h => h
theorem Fr.trans (h : Fr S H H') (k : Fr S H' H2) : Fr S H H2 := fun a o n e => k a o n (h a o n e)
theorem Fr.mono (h : Fr S H H') (k : ∀ a, a ∈ S → a ∈ T) : Fr T H H' := fun a o n e => h a o (fun m => n (k a m)) e
theorem Fr.same (h : Same H H') : Fr S H H' := fun a o _ e => h a o e
theorem Fr.new (h : H p = none) : Fr S H (upd H p o) := Fr.same (Fl.Same.new h)
theorem Fr.upd (h : p ∈ S) : Fr S H (upd H p o) := fun a u n e => by
  rw [upd_ne (fun q => n (by rw [q]; exact h))]
  exact e
theorem Fr.sm (h : Fr [] H H') : Same H H' := fun a o e => h a o (List.not_mem_nil) e
theorem Al.nil : Al [] H := fun a h => nomatch h
theorem Al.cons (h : H a ≠ none) (k : Al S H) : Al (a :: S) H := fun b m => by
  rcases List.mem_cons.mp m with rfl | m
  · exact h
  · exact k b m
theorem Al.same (k : Al S H) (e : Same H H') : Al S H' := fun b m q => by
  cases z : H b with
  | none => exact k b m z
  | some o => rw [e b o z] at q; cases q
theorem Al.fr (k : Al S H) (e : Fr T H H') (k2 : Al T H') : Al S H' := fun b m q => by
  by_cases hb : b ∈ T
  · exact k2 b hb q
  · cases z : H b with
    | none => exact k b m z
    | some o => rw [e b o hb z] at q; cases q
theorem Al.ni (k : Al S H) (e : H p = none) : p ∉ S := fun m => k p m e
theorem Dq.fr (h : Dq S H v d) (e : Fr S H H') : Dq S H' v d := h.to fun a o n q => ⟨n, e a o n q⟩
theorem Dq.same (h : Dq S H v d) (e : Same H H') : Dq S H' v d := h.fr (Fr.same e)
theorem Dq.mono (h : Dq S H v d) (k : ∀ a, a ∈ T → a ∈ S) : Dq T H v d := h.to fun a o n q => ⟨fun m => n (k a m), q⟩
theorem Dq.new (h : Dq S H v d) (e : H D = none) : Dq (D :: S) H v d := h.to fun a o n q => ⟨fun m => by
  rcases List.mem_cons.mp m with rfl | m
  · rw [e] at q; cases q
  · exact n m, q⟩
theorem Dq.tail (h : Dq (D :: S) H v d) : Dq S H v d := h.mono fun _ m => List.mem_cons_of_mem _ m
theorem DqA.fr (h : DqA S H vs ds) (e : Fr S H H') : DqA S H' vs ds := h.to fun a o n q => ⟨n, e a o n q⟩
theorem DqA.same (h : DqA S H vs ds) (e : Same H H') : DqA S H' vs ds := h.fr (Fr.same e)
theorem DqA.mono (h : DqA S H vs ds) (k : ∀ a, a ∈ T → a ∈ S) : DqA T H vs ds := h.to fun a o n q => ⟨fun m => n (k a m), q⟩
theorem DqA.new (h : DqA S H vs ds) (e : H D = none) : DqA (D :: S) H vs ds := h.to fun a o n q => ⟨fun m => by
  rcases List.mem_cons.mp m with rfl | m
  · rw [e] at q; cases q
  · exact n m, q⟩
theorem DqA.tail (h : DqA (D :: S) H vs ds) : DqA S H vs ds := h.mono fun _ m => List.mem_cons_of_mem _ m
theorem DqA.len : ∀ {vs : List V} {ds : List PyData}, DqA S H vs ds → vs.length = ds.length
  | _, _, .nil => rfl
  | _, _, .cons _ r => congrArg (· + 1) (DqA.len r)
theorem DqA.app : ∀ {vs : List V} {ds : List PyData}, DqA S H vs ds → DqA S H ws es → DqA S H (vs ++ ws) (ds ++ es)
  | _, _, .nil, k => k
  | _, _, .cons h r, k => .cons h (DqA.app r k)
theorem DqA.one (h : Dq S H v d) : DqA S H [v] [d] := .cons h .nil
theorem DqA.drop : ∀ {vs : List V} {ds : List PyData} (n : Nat), DqA S H vs ds → DqA S H (vs.drop n) (ds.drop n)
  | _, _, 0, h => h
  | _, _, _ + 1, .nil => .nil
  | _, _, n + 1, .cons _ r => DqA.drop n r
theorem DqA.take : ∀ {vs : List V} {ds : List PyData} (n : Nat), DqA S H vs ds → DqA S H (vs.take n) (ds.take n)
  | _, _, 0, _ => .nil
  | _, _, _ + 1, .nil => .nil
  | _, _, n + 1, .cons h r => .cons h (DqA.take n r)
theorem DqA.rev : ∀ {vs : List V} {ds : List PyData}, DqA S H vs ds → DqA S H vs.reverse ds.reverse
  | _, _, .nil => .nil
  | _, _, .cons h r => by
    rw [List.reverse_cons, List.reverse_cons]
    exact (DqA.rev r).app (.one h)
theorem DqA.get : ∀ {vs : List V} {ds : List PyData} {i : Nat}, DqA S H vs ds → vs[i]? = some v → ∃ d, ds[i]? = some d ∧ Dq S H v d
  | _, _, _, .nil, e => by simp at e
  | _, _, 0, .cons h _, e => by simp at e; subst e; exact ⟨_, rfl, h⟩
  | _, _, i + 1, .cons _ r, e => by
    obtain ⟨d, h1, h2⟩ := DqA.get (i := i) r (by simpa using e)
    exact ⟨d, by simpa using h1, h2⟩
theorem DqA.getD : ∀ {vs : List V} {ds : List PyData} {i : Nat}, DqA S H vs ds → ds[i]? = some d → ∃ v, vs[i]? = some v ∧ Dq S H v d
  | _, _, _, .nil, e => by simp at e
  | _, _, 0, .cons h _, e => by simp at e; subst e; exact ⟨_, rfl, h⟩
  | _, _, i + 1, .cons _ r, e => by
    obtain ⟨v, h1, h2⟩ := DqA.getD (i := i) r (by simpa using e)
    exact ⟨v, by simpa using h1, h2⟩
theorem Dq.lstE (h : Dq S H v (.list ds)) : ∃ a xs, v = .ref a ∧ a ∉ S ∧ H a = some (.lst xs) ∧ DqA S H xs ds := by
  cases h with
  | lst n q r => exact ⟨_, _, rfl, n, q, r⟩
theorem Dq.tupE (h : Dq S H v (.tuple ds)) : ∃ a xs, v = .ref a ∧ a ∉ S ∧ H a = some (.tup xs) ∧ DqA S H xs ds := by
  cases h with
  | tup n q r => exact ⟨_, _, rfl, n, q, r⟩
theorem Dq.intE {i : Int} (h : Dq S H v (.int i)) : v = .int i := by cases h; rfl
theorem Dq.blE {b : Bool} (h : Dq S H v (.bool b)) : v = .bl b := by cases h; rfl
theorem Dq.nonE (h : Dq S H v .none) : v = .non := by cases h; rfl
theorem DqA.nilE (h : DqA S H vs []) : vs = [] := by cases h; rfl
theorem DqA.consE (h : DqA S H vs (d :: ds)) : ∃ v ws, vs = v :: ws ∧ Dq S H v d ∧ DqA S H ws ds := by
  cases h with
  | cons h r => exact ⟨_, _, rfl, h, r⟩
end
/-- a new list or tuple of data -/
theorem Dq.newL {S : List Addr} {H : Hp} {p : Addr} {xs : List V} {ds : List PyData} (k : Al S H) (e : H p = none) (h : DqA S H xs ds) : Dq S (upd H p (.lst xs)) (.ref p) (.list ds) :=
  .lst (k.ni e) upd_same (h.fr (Fr.new e))
theorem Dq.newT {S : List Addr} {H : Hp} {p : Addr} {xs : List V} {ds : List PyData} (k : Al S H) (e : H p = none) (h : DqA S H xs ds) : Dq S (upd H p (.tup xs)) (.ref p) (.tuple ds) :=
  .tup (k.ni e) upd_same (h.fr (Fr.new e))

/-- a function of data: nothing that stands is changed -/
def spD (f : List PyData → PyData → Prop) : Sp := fun vs H Q _ => ∃ S ds d, Al S H ∧ DqA S H vs ds ∧ f ds d ∧ ∀ v H', Same H H' → Dq S H' v d → Q v H'
theorem spD_app {f : List PyData → PyData → Prop} {vs : List V} {H : Hp} {Q : VK} {E : XK} (S : List Addr) (ds : List PyData) (d : PyData) (hS : Al S H) (hd : DqA S H vs ds) (hf : f ds d) (q : ∀ v H', Same H H' → Dq S H' v d → Q v H') : spD f vs H Q E :=
  ⟨S, ds, d, hS, hd, hf, q⟩

/-! ### points -/
abbrev Pt := Int × Int × Bool
def ptD (p : Pt) : PyData := .tuple [.int p.1, .int p.2.1, .bool p.2.2]
def ctD (c : List Pt) : PyData := .list (c.map ptD)
def ouD (o : List (List Pt)) : PyData := .list (o.map ctD)
theorem ptE {S : List Addr} {H : Hp} {v : V} {p : Pt} (h : Dq S H v (ptD p)) : ∃ a, v = .ref a ∧ a ∉ S ∧ H a = some (.tup [.int p.1, .int p.2.1, .bl p.2.2]) := by
  obtain ⟨a, xs, rfl, n, q, r⟩ := h.tupE
  obtain ⟨x1, w1, rfl, h1, r⟩ := r.consE
  obtain ⟨x2, w2, rfl, h2, r⟩ := r.consE
  obtain ⟨x3, w3, rfl, h3, r⟩ := r.consE
  cases r.nilE
  cases h1.intE
  cases h2.intE
  cases h3.blE
  exact ⟨a, rfl, n, q⟩
theorem ptI {S : List Addr} {H : Hp} {a : Addr} {x y : Int} {b : Bool} (n : a ∉ S) (q : H a = some (.tup [.int x, .int y, .bl b])) : Dq S H (.ref a) (ptD (x, y, b)) := .tup n q (.cons (.int _) (.cons (.int _) (.cons (.bl _) .nil)))

/-! ### comprehensions -/
section
variable {H1 : Hp} {Q : VK} {g : TG} {tt : TT} {te : TE} {tb : TS} {vs : List Nat} {σ : L2.St} {D : Ends}
/-- what is left of a comprehension when it is known what is walked -/
def lcK (J : It) (g : TG) (tt : TT) (te : TE) (vs : List Nat) (σ : L2.St) (H1 : Hp) (Q : VK) : Prop :=
  ∀ B, H1 B = none → ∃ W : Nat → Nat → Hp → Prop, (∃ m, W 0 m (upd H1 B (.lst []))) ∧ ∀ i m H, W i m H →
    (J.stop i H ∧ Q (.ref B) H) ∨ (J.go i H ∧ ∃ Nx : Hp → Prop, (∀ H', Nx H' → ∃ m', m' < m ∧ W (i + 1) m' H') ∧
      ∀ x H', J.yld i H x H' → g x (wipe σ vs) H' fun σ2 H2 => wipe σ2 vs = wipe σ vs ∧ tt σ2 H2 fun b H3 =>
        if b = true then te σ2 H3 fun y H4 => ∃ acc, H4 B = some (.lst acc) ∧ acc.length < sizeLine ∧ Nx (upd H4 B (.lst (acc ++ [y]))) else Nx H3)
/-- the same of a loop -/
def forK (J : It) (g : TG) (tb : TS) (D : Ends) (σ : L2.St) (H1 : Hp) : Prop :=
  ∃ W : Nat → Nat → L2.St → Hp → Prop, (∃ m, W 0 m σ H1) ∧ ∀ i m σ H, W i m σ H →
    (J.stop i H ∧ D.nx σ H) ∨ (J.go i H ∧ ∃ N : L2.St → Hp → Prop, (∀ σ' H', N σ' H' → ∃ m', m' < m ∧ W (i + 1) m' σ' H') ∧
      ∀ x H', J.yld i H x H' → g x σ H' fun σ2 H2 => tb { D with nx := N, ct := N, bk := D.nx } σ2 H2)
end
section
variable {S : List Addr} {H1 : Hp} {K : PySem.W.Frag} {g : TG} {tt : TT} {te : TE} {vs : List Nat} {σ : L2.St} {Q : VK}
theorem fm_succ {f : Nat → Option PyData} (i : Nat) : (List.range (i + 1)).filterMap f = (List.range i).filterMap f ++ (f i).toList := by
  rw [List.range_succ, List.filterMap_append]
  cases h : f i <;> simp [h]
theorem sm_of {D : Addr} {H : Hp} (hD : H1 D = none) (f : Fr [D] H1 H) : Same H1 H := fun b o q => f b o (fun m => by
  have : b = D := by simpa using m
  rw [this, hD] at q; cases q) q
/-- the list D at turn i: the items that f has given so far -/
structure CompAt (S : List Addr) (H1 : Hp) (D : Addr) (f : Nat → Option PyData) (i : Nat) (H : Hp) : Prop where
  ex : ∃ acc, H D = some (.lst acc) ∧ DqA (D :: S) H acc ((List.range i).filterMap f)
  fr : Fr [D] H1 H
theorem CompAt.zero {D : Addr} {f : Nat → Option PyData} (hD : H1 D = none) : CompAt S H1 D f 0 (upd H1 D (.lst [])) := ⟨⟨[], upd_same, .nil⟩, Fr.same (Fl.Same.new hD)⟩
theorem CompAt.same {D : Addr} {f : Nat → Option PyData} {i : Nat} {H H' : Hp} (h : CompAt S H1 D f i H) (e : Same H H') : CompAt S H1 D f i H' := by
  obtain ⟨⟨acc, h1, h2⟩, h3⟩ := h
  exact ⟨⟨acc, e _ _ h1, h2.same e⟩, h3.trans (Fr.same e)⟩
theorem CompAt.skip {D : Addr} {f : Nat → Option PyData} {i : Nat} {H : Hp} (h : CompAt S H1 D f i H) (e : f i = none) : CompAt S H1 D f (i + 1) H := by
  obtain ⟨⟨acc, h1, h2⟩, h3⟩ := h
  refine ⟨⟨acc, h1, ?_⟩, h3⟩
  rw [fm_succ, e]
  simpa using h2
theorem CompAt.len {D : Addr} {f : Nat → Option PyData} {i : Nat} {H : Hp} (h : CompAt S H1 D f i H) (hi : i < 1000) : ∀ acc, H D = some (.lst acc) → acc.length < sizeLine := by
  obtain ⟨⟨acc, h1, h2⟩, h3⟩ := h
  intro acc' h'
  rw [h1] at h'
  cases h'
  have e := h2.len
  have e2 := List.length_filterMap_le f (List.range i)
  rw [List.length_range] at e2
  have : (1000 : Nat) ≤ sizeLine := by decide
  omega
theorem CompAt.put {D : Addr} {f : Nat → Option PyData} {i : Nat} {H H4 : Hp} {y : V} {r : PyData} (h : CompAt S H1 D f i H) (hi : i < 1000) (e : f i = some r) (s : Same H H4) (d : Dq (D :: S) H4 y r) :
    ∃ acc, H4 D = some (.lst acc) ∧ acc.length < sizeLine ∧ CompAt S H1 D f (i + 1) (upd H4 D (.lst (acc ++ [y]))) := by
  have h4 := h.same s
  obtain ⟨⟨acc, h1, h2⟩, h3⟩ := h4
  refine ⟨acc, h1, (h.same s).len hi acc h1, ⟨acc ++ [y], upd_same, ?_⟩, h3.trans (Fr.upd (by simp))⟩
  rw [fm_succ, e]
  exact (h2.app (.one d)).fr (Fr.upd (by simp))
theorem CompAt.al {D : Addr} {f : Nat → Option PyData} {i : Nat} {H : Hp} (h : CompAt S H1 D f i H) (hS : Al S H1) (hD : H1 D = none) : Al (D :: S) H := by
  obtain ⟨⟨acc, h1, h2⟩, h3⟩ := h
  exact .cons (by rw [h1]; simp) (hS.same (sm_of hD h3))
theorem CompAt.fin {D : Addr} {f : Nat → Option PyData} {i : Nat} {H : Hp} (h : CompAt S H1 D f i H) (hS : Al S H1) (hD : H1 D = none) : Dq S H (.ref D) (.list ((List.range i).filterMap f)) := by
  obtain ⟨⟨acc, h1, h2⟩, h3⟩ := h
  exact .lst (hS.ni hD) h1 h2.tail
/-- [elt for x in list if test], nothing changed: es the items, f what becomes of each -/
theorem lcL {a : Addr} {es : List PyData} (f : Nat → Option PyData) (hS : Al S H1) (ha : Dq S H1 (.ref a) (.list es)) (hz : es.length < 1000)
    (step : ∀ (D : Addr) (i : Nat) (x : V) (e : PyData) (H : Hp), H1 D = none → es[i]? = some e → Same H1 H → Al (D :: S) H → Dq (D :: S) H x e →
      ∀ (R : V → Hp → Prop) (N : Hp → Prop), (∀ r y H4, f i = some r → Same H H4 → Dq (D :: S) H4 y r → R y H4) → (f i = none → ∀ H4, Same H H4 → N H4) →
      g x (wipe σ vs) H fun σ2 H2 => wipe σ2 vs = wipe σ vs ∧ tt σ2 H2 fun b H3 => if b = true then te σ2 H3 R else N H3)
    (q : ∀ (D : Addr) (H : Hp), Same H1 H → H1 D = none → Dq S H (.ref D) (.list ((List.range es.length).filterMap f)) → Q (.ref D) H) :
    lcK (Itl K a) g tt te vs σ H1 Q := by
  unfold lcK
  intro D hD
  obtain ⟨a', xs, ea, na, hxs, hall⟩ := ha.lstE
  cases ea
  have hlx := hall.len
  have hDa : a ≠ D := fun e => by rw [e, hD] at hxs; cases hxs
  refine lc_list (xs := xs) (CompAt S H1 D f) (CompAt.zero hD) ?_ ?_ ?_
  · intro i H _ h
    exact SqL.of (h.fr a _ (by simpa using hDa) hxs)
  · intro i x H hx h
    have hlt : i < xs.length := (List.getElem?_eq_some_iff.mp hx).1
    have hsm : Same H1 H := sm_of hD h.fr
    have hall' : DqA (D :: S) H xs es := (hall.new hD).same hsm
    obtain ⟨e, he, hxe⟩ := hall'.get hx
    exact step D i x e H hD he hsm (h.al hS hD) hxe _ _ (fun r y H4 er s d => h.put (by omega) er s d) fun en H4 s => (h.same s).skip en
  · intro H h
    rw [hlx] at h
    exact q D H (sm_of hD h.fr) hD (h.fin hS hD)
/-- the same over range(lo, ..) of n numbers -/
theorem lcR {lo : Int} {n : Nat} (f : Nat → Option PyData) (hS : Al S H1) (hz : n < 1000)
    (step : ∀ (D : Addr) (i : Nat) (H : Hp), H1 D = none → i < n → Same H1 H → Al (D :: S) H →
      ∀ (R : V → Hp → Prop) (N : Hp → Prop), (∀ r y H4, f i = some r → Same H H4 → Dq (D :: S) H4 y r → R y H4) → (f i = none → ∀ H4, Same H H4 → N H4) →
      g (.int (lo + i)) (wipe σ vs) H fun σ2 H2 => wipe σ2 vs = wipe σ vs ∧ tt σ2 H2 fun b H3 => if b = true then te σ2 H3 R else N H3)
    (q : ∀ (D : Addr) (H : Hp), Same H1 H → H1 D = none → Dq S H (.ref D) (.list ((List.range n).filterMap f)) → Q (.ref D) H) :
    lcK (Itr lo n) g tt te vs σ H1 Q := by
  unfold lcK
  intro D hD
  refine lc_range (CompAt S H1 D f) (CompAt.zero hD) ?_ ?_
  · intro i H hlt h
    exact step D i H hD hlt (sm_of hD h.fr) (h.al hS hD) _ _ (fun r y H4 er s d => h.put (by omega) er s d) fun en H4 s => (h.same s).skip en
  · intro H h
    exact q D H (sm_of hD h.fr) hD (h.fin hS hD)
theorem fm_take (rs : List PyData) : ∀ n : Nat, (List.range n).filterMap (fun i => rs[i]?) = rs.take n
  | 0 => by simp
  | n + 1 => by rw [fm_succ, fm_take rs n, List.take_succ]
theorem fm_map {es rs : List PyData} (hl : rs.length = es.length) : (List.range es.length).filterMap (fun i => rs[i]?) = rs := by
  rw [fm_take, List.take_of_length_le (by omega)]
end

/-! ### the deck -/
def Dk (d s : Addr) (ns : List Int) (H : Hp) : Prop := s ≠ d ∧ H s = some (.lst (ns.map V.int)) ∧ ∃ pos rest seed : Int, H d = some (.lst [.ref s, .int pos, .int rest, .int seed]) ∧ 0 ≤ pos
/-- only what stands at d is another -/
def On (d : Addr) (H H' : Hp) : Prop := ∀ b, b ≠ d → H' b = H b
section
variable {d s D : Addr} {ns : List Int} {H H' H2 : Hp} {o : HO} {S : List Addr}
theorem On.refl : On d H H := fun _ _ => rfl
theorem On.trans (h : On d H H') (k : On d H' H2) : On d H H2 := fun b n => (k b n).trans (h b n)
theorem On.upd : On d H (upd H d o) := fun b n => upd_ne n
theorem On.fr (h : On d H H') : Fr [d] H H' := fun a u n e => by
  rw [h a (by simpa using n)]
  exact e
theorem On.frS (h : On d H H') (m : d ∈ S) : Fr S H H' := h.fr.mono fun a k => by
  rw [show a = d by simpa using k]
  exact m
theorem Dk.hd (h : Dk d s ns H) : H d ≠ none := by
  obtain ⟨_, _, _, _, _, e, _⟩ := h
  rw [e]
  simp
theorem Dk.hs (h : Dk d s ns H) : H s ≠ none := by
  obtain ⟨_, e, _⟩ := h
  rw [e]
  simp
theorem Dk.fr (h : Dk d s ns H) (e : Fr S H H') (h1 : d ∉ S) (h2 : s ∉ S) : Dk d s ns H' := by
  obtain ⟨a, b, p, r, q, c, e0⟩ := h
  exact ⟨a, e _ _ h2 b, p, r, q, e _ _ h1 c, e0⟩
theorem Dk.same (h : Dk d s ns H) (e : Same H H') : Dk d s ns H' := h.fr (S := []) (Fr.same e) (by simp) (by simp)
theorem Dk.put (h : Dk d s ns H) (hD : D ≠ d) (hs : D ≠ s) : Dk d s ns (upd H D o) := h.fr (S := [D]) (Fr.upd (by simp)) (by simpa using hD.symm) (by simpa using hs.symm)
theorem Dk.ned (h : Dk d s ns H) (hD : H D = none) : D ≠ d := fun e => h.hd (e ▸ hD)
theorem Dk.nes (h : Dk d s ns H) (hD : H D = none) : D ≠ s := fun e => h.hs (e ▸ hD)
end
def spDk (K : PySem.W.Frag) : Sp := fun vs H Q _ => ∃ (a : Addr) (ns : List Int), vs = [.ref a] ∧ SqL K H a (ns.map V.int) ∧ ∀ d s H', Same H H' → Dk d s ns H' → Q (.ref d) H'
def spDr : Sp := fun vs H Q _ => ∃ (d s : Addr) (ns : List Int) (m : Int), vs = [.ref d, .int m] ∧ Dk d s ns H ∧ 0 < m ∧ m < 10 ^ 62 ∧ ∀ v H', 0 ≤ v → v < m → Dk d s ns H' → On d H H' → Q (.int v) H'
theorem dr_app {d s : Addr} {ns : List Int} {m : Int} {H : Hp} {Q : VK} {E : XK} (h : Dk d s ns H) (h1 : 0 < m) (h2 : m < 10 ^ 62) (k : ∀ v H', 0 ≤ v → v < m → Dk d s ns H' → On d H H' → Q (.int v) H') : spDr [.ref d, .int m] H Q E := ⟨d, s, ns, m, rfl, h, h1, h2, k⟩
/-- how far a point lies -/
def PtIn (b : Int) (p : Pt) : Prop := -b ≤ p.1 ∧ p.1 ≤ b ∧ -b ≤ p.2.1 ∧ p.2.1 ≤ b
def spPt : Sp := fun vs H Q _ => ∃ (S : List Addr) (d s : Addr) (ns : List Int) (far : Int), vs = [.ref d, .int far] ∧ d ∈ S ∧ Al S H ∧ Dk d s ns H ∧ 130 ≤ far ∧ far ≤ 10 ^ 6 ∧
  ∀ t H' p, Fr [d] H H' → Dk d s ns H' → Dq S H' (.ref t) (ptD p) → PtIn far p → Q (.ref t) H'

/-! ### more readings -/
section
variable {σ : L2.St} {H H' H2 : Hp} {Q : VK} {v x y : V} {ta tb tc te : TE} {K : PySem.W.Frag} {p a b l : Addr} {xs zs : List V} {o : HO}
theorem raw_new (h : H p = none) (e : H a = some o) {u : HO} : upd H p u a = some o := Fl.Same.new h a o e
theorem raw_same (h : Same H H') (e : H a = some o) : H' a = some o := h a o e
theorem none_upd {u : HO} (h : H p = none) (n : p ≠ a) : upd H a u p = none := by rw [upd_ne n]; exact h
theorem Dq.newH {S : List Addr} {d : PyData} {u : HO} (e : H p = none) (h : Dq S H v d) : Dq S (upd H p u) v d := h.same (Fl.Same.new e)
theorem DqA.newH {S : List Addr} {vs : List V} {ds : List PyData} {u : HO} (e : H p = none) (h : DqA S H vs ds) : DqA S (upd H p u) vs ds := h.same (Fl.Same.new e)
theorem Al.newH {S : List Addr} {u : HO} (e : H p = none) (h : Al S H) : Al S (upd H p u) := h.same (Fl.Same.new e)
theorem g_sl {r : V → Option Int → Option Int → Hp → VK → Prop} {tl th : TO} (h : te σ H fun x H1 => tl σ H1 fun l H2 => th σ H2 fun u H3 => r x l u H3 Q) : L2.tSl r te tl th σ H Q := h
theorem g_part {QO : Option Int → Hp → Prop} (h : te σ H fun x H1 => ∃ i, x = .int i ∧ QO (some i) H1) : tPart te σ H QO := h
theorem g_nop {QO : Option Int → Hp → Prop} (h : QO none H) : tNoPart σ H QO := h
theorem g_ei {i : Int} {R : Int → Prop} (q : R i) : ∃ j, V.int i = .int j ∧ R j := ⟨i, rfl, q⟩
theorem g_slL {lo hi : Option Int} (h : SqL K H a xs) (q : ∀ p, H p = none → Q (.ref p) (upd H p (.lst (cutV xs lo hi)))) : rSlL K (.ref a) lo hi H Q := ⟨a, xs, rfl, h, q⟩
theorem g_slT {lo hi : Option Int} (h : SqT K H a xs) (n : ¬ (HT.sIx xs.length 0 lo = 0 ∧ HT.sIx xs.length xs.length hi = xs.length)) (q : ∀ p, H p = none → Q (.ref p) (upd H p (.tup (cutV xs lo hi)))) : rSlT K (.ref a) lo hi H Q := ⟨a, xs, rfl, h, n, q⟩
theorem cut_from (k : Nat) : cutV xs (some (k : Int)) none = xs.drop k := by
  show (xs.drop (HT.sIx xs.length 0 (some (k : Int)))).take (HT.sIx xs.length xs.length none - HT.sIx xs.length 0 (some (k : Int))) = _
  rw [HT.sIx_nat, HT.sIx_none]
  rcases Nat.le_total k xs.length with h | h
  · rw [Nat.min_eq_left h, List.take_of_length_le (by rw [List.length_drop]; omega)]
  · rw [Nat.min_eq_right h, Nat.sub_self, List.take_zero, List.drop_of_length_le h]
theorem cut_to (k : Nat) : cutV xs none (some (k : Int)) = xs.take k := by
  show (xs.drop (HT.sIx xs.length 0 none)).take (HT.sIx xs.length xs.length (some (k : Int)) - HT.sIx xs.length 0 none) = _
  rw [HT.sIx_nat, HT.sIx_none, List.drop_zero, Nat.sub_zero]
  rcases Nat.le_total k xs.length with h | h
  · rw [Nat.min_eq_left h]
  · rw [Nat.min_eq_right h, List.take_of_length_le (Nat.le_refl _), List.take_of_length_le h]
theorem cut_last : cutV xs none (some (-1)) = xs.dropLast := by
  show (xs.drop (HT.sIx xs.length 0 none)).take (HT.sIx xs.length xs.length (some (-1)) - HT.sIx xs.length 0 none) = _
  rw [HT.sIx_none, List.drop_zero, Nat.sub_zero, List.dropLast_eq_take]
  congr 1
  show (if (-1 : Int) < 0 then ((-1 : Int) + (xs.length : Int)).toNat else min (-1 : Int).toNat xs.length) = _
  rw [if_pos (by decide)]
  omega
theorem cut_fromLast : cutV xs (some (-1)) none = xs.drop (xs.length - 1) := by
  show (xs.drop (HT.sIx xs.length 0 (some (-1)))).take (HT.sIx xs.length xs.length none - HT.sIx xs.length 0 (some (-1))) = _
  have e : HT.sIx xs.length 0 (some (-1)) = xs.length - 1 := by
    show (if (-1 : Int) < 0 then ((-1 : Int) + (xs.length : Int)).toNat else min (-1 : Int).toNat xs.length) = _
    rw [if_pos (by decide)]
    omega
  rw [e, HT.sIx_none, List.take_of_length_le (by rw [List.length_drop]; omega)]
theorem g_cat (h1 : H l = some (.lst xs)) (h2 : H b = some (.lst zs)) (hz : xs.length + zs.length ≤ 2000) (q : ∀ p, H p = none → Q (.ref p) (upd H p (.lst (xs ++ zs)))) : rCat (.ref l) (.ref b) H Q :=
  ⟨l, b, xs, zs, rfl, rfl, h1, h2, Nat.le_trans hz (by decide), q⟩
end
/-! promises about outlines -/
def beg (c : List α) (k : Nat) : List α := c.drop k ++ c.take k
def fBeg (ds : List PyData) (d : PyData) : Prop := ∃ (c : List PyData) (k : Nat), ds = [.list c, .int (k : Int)] ∧ c.length ≤ 900 ∧ d = .list (beg c k)

section
variable {d s D : Addr} {ns : List Int} {H H' H1 H2 : Hp} {o : HO} {S : List Addr} {a : Addr} {v : V} {e : PyData}
theorem raw_on (h : On d H H') (n : a ≠ d) (e : H a = some o) : H' a = some o := by rw [h a n]; exact e
theorem raw_frd (h : Fr [d] H H') (n : a ≠ d) (e : H a = some o) : H' a = some o := h a o (by simpa using n) e
theorem Dq.frd (h : Fr [d] H H') (m : d ∈ S) (k : Dq S H v e) : Dq S H' v e := k.fr (h.mono fun a q => by
  rw [show a = d by simpa using q]
  exact m)
theorem Al.frd (h : Fr [d] H H') (k : Dk d s ns H') (q : Al S H) : Al S H' := q.fr h (.cons k.hd .nil)
theorem spread_at {v far : Int} (h0 : 0 ≤ v) (h1 : v < 3) (hf : 130 ≤ far) : ∃ sp : Int, atI [V.int 9, V.int 130, V.int far] v = some (.int sp) ∧ 9 ≤ sp ∧ sp ≤ far := by
  rcases (by omega : v = 0 ∨ v = 1 ∨ v = 2) with rfl | rfl | rfl
  · exact ⟨9, rfl, by omega, by omega⟩
  · exact ⟨130, rfl, by omega, by omega⟩
  · exact ⟨far, rfl, by omega, by omega⟩
theorem pt_app {far : Int} {Q : VK} {E : XK} (S : List Addr) (h1 : d ∈ S) (h2 : Al S H) (h3 : Dk d s ns H) (h4 : 130 ≤ far) (h5 : far ≤ 10 ^ 6) (q : ∀ t H' p, Fr [d] H H' → Dk d s ns H' → Dq S H' (.ref t) (ptD p) → PtIn far p → Q (.ref t) H') : spPt [.ref d, .int far] H Q E :=
  ⟨S, d, s, ns, far, rfl, h1, h2, h3, h4, h5, q⟩
/-- the list of points D at turn i -/
structure PtsAt (S : List Addr) (H1 : Hp) (d s : Addr) (ns : List Int) (far : Int) (D : Addr) (i : Nat) (H : Hp) : Prop where
  ex : ∃ (acc : List V) (c : List Pt), H D = some (.lst acc) ∧ DqA (D :: S) H acc (c.map ptD) ∧ c.length = i ∧ ∀ p, p ∈ c → PtIn far p
  fr : Fr [D, d] H1 H
  dk : Dk d s ns H
/-- [point for j in range(n)], points drawn from the deck at d -/
theorem lcDk {n : Nat} {lo far : Int} {g : TG} {te : TE} {vs : List Nat} {σ : L2.St} {Q : VK} (hS : Al S H1) (hd : d ∈ S) (hk : Dk d s ns H1) (hz : n < 1000)
    (step : ∀ (D : Addr) (i : Nat) (H : Hp), Al (D :: S) H → Dk d s ns H →
      ∀ (R : V → Hp → Prop), (∀ t H' p, Fr [d] H H' → Dk d s ns H' → Dq (D :: S) H' (.ref t) (ptD p) → PtIn far p → R (.ref t) H') →
      g (.int (lo + i)) (wipe σ vs) H fun σ2 H2 => wipe σ2 vs = wipe σ vs ∧ te σ2 H2 R)
    (q : ∀ (D : Addr) (H : Hp) (c : List Pt), Fr [d] H1 H → Dk d s ns H → Dq S H (.ref D) (ctD c) → c.length = n → (∀ p, p ∈ c → PtIn far p) → Q (.ref D) H)
    (gm : ∀ x σ' H' (Q1 Q2 : L2.St → Hp → Prop), (∀ s h, Q1 s h → Q2 s h) → g x σ' H' Q1 → g x σ' H' Q2) :
    lcK (Itr lo n) g tYes te vs σ H1 Q := by
  unfold lcK
  intro D hD
  have hnd : D ≠ d := hk.ned hD
  have hns : D ≠ s := hk.nes hD
  refine lc_range (PtsAt S H1 d s ns far D) ⟨⟨[], [], upd_same, .nil, rfl, fun _ m => nomatch m⟩, Fr.same (Fl.Same.new hD), hk.put hnd hns⟩ ?_ ?_
  · intro i H hlt h
    obtain ⟨⟨acc, c, hacc, hA, hl, hp⟩, hf, hk'⟩ := h
    have hAl : Al (D :: S) H := .cons (by rw [hacc]; simp) (hS.fr hf fun b m => by
      rcases List.mem_cons.mp m with rfl | m
      · rw [hacc]; simp
      · rw [show b = d by simpa using m]
        exact hk'.hd)
    refine gm _ _ _ _ _ (fun σ2 H2 hq => ⟨hq.1, ?_⟩) (step D i H hAl hk' (fun y H4 => ∃ acc, H4 D = some (.lst acc) ∧ acc.length < sizeLine ∧ PtsAt S H1 d s ns far D (i + 1) (upd H4 D (.lst (acc ++ [y])))) ?_)
    · exact hq.2
    · intro t H' p f k dq hp'
      have f' : Fr (D :: S) H H' := f.mono fun b m => by
        rw [show b = d by simpa using m]
        exact List.mem_cons_of_mem _ hd
      refine ⟨acc, f D _ (by simpa using hnd) hacc, ?_, ⟨acc ++ [.ref t], c ++ [p], upd_same, ?_, ?_, ?_⟩, ?_, ?_⟩
      · have := hA.len
        rw [List.length_map] at this
        have : (1000 : Nat) ≤ sizeLine := by decide
        omega
      · rw [List.map_append]
        exact ((hA.fr f').app (.one dq)).fr (Fr.upd (by simp))
      · rw [List.length_append, hl]
        rfl
      · intro p2 m
        rcases List.mem_append.mp m with m | m
        · exact hp p2 m
        · rw [show p2 = p by simpa using m]
          exact hp'
      · exact (hf.trans (f.mono fun b m => by simpa using Or.inr (show b = d by simpa using m))).trans (Fr.upd (by simp))
      · exact k.put hnd hns
  · intro H h
    obtain ⟨⟨acc, c, hacc, hA, hl, hp⟩, hf, hk'⟩ := h
    refine q D H c (fun b o n e => hf b o (fun m => ?_) e) hk' (.lst (hS.ni hD) hacc hA.tail) hl hp
    rcases List.mem_cons.mp m with rfl | m
    · rw [hD] at e; cases e
    · exact n m
/-- an outline that was drawn -/
structure OuIn (least : Nat) (far : Int) (o : List (List Pt)) : Prop where
  len : o.length ≤ 3
  cs : ∀ c, c ∈ o → least ≤ c.length ∧ c.length ≤ least + 5 ∧ ∀ p, p ∈ c → PtIn far p
end
def spOu : Sp := fun vs H Q _ => ∃ (d s : Addr) (ns : List Int) (least : Nat) (far : Int), vs = [.ref d, .int (least : Int), .int far] ∧ Dk d s ns H ∧ least ≤ 2 ∧ 130 ≤ far ∧ far ≤ 10 ^ 6 ∧
  ∀ t H' o, Fr [d] H H' → Dk d s ns H' → Dq [d] H' (.ref t) (ouD o) → OuIn least far o → Q (.ref t) H'
theorem g_sz {n : Nat} {A : Prop} (hn : n ≤ 1000) (h : A) : n ≤ sizeLine ∧ A := ⟨Nat.le_trans hn (by decide), h⟩
section
variable {σ : L2.St} {H : Hp} {te : TE} {D : Ends} {g : TG} {tb : TS}
/-- for _ in range(n): the number first, then the turns (te keeps its continuation: what it gives is put into te's own reading) -/
theorem g_forR_ (Pv : Nat → L2.St → Hp → Prop)
    (h : te σ H fun x H1 => ∃ n : Int, x = .int n ∧ -(2 ^ 62) ≤ n ∧ n < 2 ^ 62 ∧ Pv 0 σ H1 ∧ (∀ (i : Nat) σ' H', (i : Int) < n → Pv i σ' H' → g (.int (i : Int)) σ' H' fun σ2 H2 => tb { D with nx := Pv (i + 1), ct := Pv (i + 1), bk := D.nx } σ2 H2) ∧ ∀ σ' H', Pv n.toNat σ' H' → D.nx σ' H')
    (mono : ∀ Q Q' : VK, (∀ x H1, Q x H1 → Q' x H1) → te σ H Q → te σ H Q') : tFor (iRng1 (tCons te tNil)) g tb D σ H := by
  refine mono _ _ (fun x H1 q => ?_) h
  obtain ⟨n, rfl, h1, h2, p, hs, hd⟩ := q
  show ∃ j : Int, [V.int n] = [V.int j] ∧ _
  refine ⟨n, rfl, h1, h2, for_range Pv p (fun i σ' H' hi p' => ?_) hd⟩
  have e0 : (0 : Int) + (i : Int) = (i : Int) := Int.zero_add _
  rw [e0]
  exact hs i σ' H' (by omega) p'
end
section
variable {S : List Addr} {d s p : Addr} {ns : List Int} {H H' H2 : Hp} {v : V} {e : PyData} {u o : HO} {vs : List V} {es : List PyData}
theorem Dk.newH (h : H p = none) (k : Dk d s ns H) : Dk d s ns (upd H p u) := k.same (Fl.Same.new h)
theorem Dk.sm (h : Same H H') (k : Dk d s ns H) : Dk d s ns H' := k.same h
theorem Dq.sm (h : Same H H') (k : Dq S H v e) : Dq S H' v e := k.same h
theorem DqA.sm (h : Same H H') (k : DqA S H vs es) : DqA S H' vs es := k.same h
theorem Al.sm (h : Same H H') (k : Al S H) : Al S H' := k.same h
theorem Dq.ond (h : On d H H') (m : d ∈ S) (k : Dq S H v e) : Dq S H' v e := Dq.frd h.fr m k
theorem Al.ond (h : On d H H') (k : Dk d s ns H') (q : Al S H) : Al S H' := Al.frd h.fr k q
theorem Same.newT (h : H2 p = none) (k : Same H H2) : Same H (upd H2 p u) := L2.Same.trans k (Fl.Same.new h)
theorem Same.sm (h : Same H2 H') (k : Same H H2) : Same H H' := L2.Same.trans k h
theorem Fr.newT (h : H2 p = none) (k : Fr S H H2) : Fr S H (L2.upd H2 p u) := k.trans (Fr.new h)
theorem Fr.ond (h : On d H2 H') (k : Fr [d] H H2) : Fr [d] H H' := k.trans h.fr
theorem Fr.smT (h : Same H2 H') (k : Fr S H H2) : Fr S H H' := k.trans (Fr.same h)
theorem Fr.frT (h : Fr S H2 H') (k : Fr S H H2) : Fr S H H' := k.trans h
end
theorem Dk.ned2 {d s D : Addr} {ns : List Int} {H : Hp} (hD : H D = none) (h : Dk d s ns H) : D ≠ d := h.ned hD
theorem g_name {i : Nat} {v : V} {σ : L2.St} {H : Hp} {Q : L2.St → Hp → Prop} (q : Q (σ.set i (some v)) H) : gName i v σ H Q := q
theorem g_bm {K : PySem.W.Frag} {T : String} {r : V → List V → Hp → VK → Prop} {to : TE} {t : TA} {σ : L2.St} {H : Hp} {Q : VK} (h : to σ H fun x H1 => tyV K T x H1 ∧ t σ H1 fun xs H2 => r x xs H2 Q) : tBM K T r to t σ H Q := h
theorem g_app {l : Addr} {xs : List V} {y : V} {H : Hp} {Q : VK} (h : H l = some (.lst xs)) (hz : xs.length < 2000) (q : Q .non (upd H l (.lst (xs ++ [y])))) : rAppend (.ref l) [y] H Q := ⟨l, xs, y, rfl, rfl, h, Nat.lt_of_lt_of_le hz (by decide), q⟩
theorem g_ext {l b : Addr} {xs zs : List V} {H : Hp} {Q : VK} (h : H l = some (.lst xs)) (h2 : H b = some (.lst zs)) (hz : xs.length + zs.length ≤ 2000) (q : Q .non (upd H l (.lst (xs ++ zs)))) : rExtend (.ref l) [.ref b] H Q := ⟨l, b, xs, zs, rfl, rfl, h, h2, Nat.le_trans hz (by decide), q⟩
section
variable {K : PySem.W.Frag} {σ : L2.St} {H H1 : Hp} {Q : VK} {g : TG} {tt : TT} {te tx ty : TE} {tb : TS} {vs : List Nat} {D : Ends} {wi : TI} {R : It → Hp → Prop} {a b : Addr} {xs ys : List V}
theorem g_tyL {A : Prop} (h : SqL K H a xs) (q : A) : tyV K "list" (.ref a) H ∧ A := ⟨.inl ⟨rfl, _, h⟩, q⟩
theorem g_lc (h : wi σ H fun J H1 => lcK J g tt te vs σ H1 Q) : tLc wi g tt te vs σ H Q := h
theorem g_for (h : wi σ H fun J H1 => forK J g tb D σ H1) : tFor wi g tb D σ H := h
theorem g_rng1 (h : te σ H fun x H1 => ∃ j : Int, [x] = [V.int j] ∧ -(2 ^ 62) ≤ j ∧ j < 2 ^ 62 ∧ R (Itr 0 j.toNat) H1) : iRng1 (tCons te tNil) σ H R := h
theorem g_rng2 (h : tx σ H fun x H1 => ty σ H1 fun y H2 => ∃ i j : Int, [x, y] = [V.int i, V.int j] ∧ (-(2 ^ 62) ≤ i ∧ i < 2 ^ 62 ∧ -(2 ^ 62) ≤ j ∧ j < 2 ^ 62) ∧ R (Itr i (j - i).toNat) H2) : iRng2 (tCons tx (tCons ty tNil)) σ H R := h
theorem g_e1 {n : Int} {Z : Int → Prop} (h1 : -(2 ^ 62) ≤ n) (h2 : n < 2 ^ 62) (q : Z n) : ∃ j : Int, [V.int n] = [V.int j] ∧ -(2 ^ 62) ≤ j ∧ j < 2 ^ 62 ∧ Z j := ⟨n, rfl, h1, h2, q⟩
theorem g_e2 {i j : Int} {Z : Int → Int → Prop} (h : -(2 ^ 62) ≤ i ∧ i < 2 ^ 62 ∧ -(2 ^ 62) ≤ j ∧ j < 2 ^ 62) (q : Z i j) : ∃ k l : Int, [V.int i, V.int j] = [V.int k, V.int l] ∧ (-(2 ^ 62) ≤ k ∧ k < 2 ^ 62 ∧ -(2 ^ 62) ≤ l ∧ l < 2 ^ 62) ∧ Z k l := ⟨i, j, rfl, h, q⟩
theorem g_il (h : te σ H fun x H1 => ∃ a, x = .ref a ∧ (∃ xs, SqL K H1 a xs) ∧ R (Itl K a) H1) : iList K te σ H R := h
theorem g_el {Z : Addr → Prop} (h : SqL K H a xs) (q : Z a) : ∃ c, V.ref a = .ref c ∧ (∃ xs, SqL K H c xs) ∧ Z c := ⟨a, rfl, ⟨xs, h⟩, q⟩
theorem g_zip (h : tx σ H fun x H1 => ty σ H1 fun y H2 => ∃ a b xs ys, [x, y] = [V.ref a, V.ref b] ∧ SqL K H2 a xs ∧ SqL K H2 b ys ∧ R (Itz K a b) H2) : iZip K (tCons tx (tCons ty tNil)) σ H R := h
theorem g_ez {Z : Addr → Addr → Prop} (h1 : SqL K H a xs) (h2 : SqL K H b ys) (q : Z a b) : ∃ c d zs ws, [V.ref a, V.ref b] = [V.ref c, V.ref d] ∧ SqL K H c zs ∧ SqL K H d ws ∧ Z c d := ⟨a, b, xs, ys, rfl, h1, h2, q⟩
theorem forK_r {lo : Int} {n : Nat} (Pv : Nat → L2.St → Hp → Prop) (h0 : Pv 0 σ H)
    (hs : ∀ i σ H, i < n → Pv i σ H → g (.int (lo + i)) σ H fun σ2 H2 => tb { D with nx := Pv (i + 1), ct := Pv (i + 1), bk := D.nx } σ2 H2) (hd : ∀ σ H, Pv n σ H → D.nx σ H) : forK (Itr lo n) g tb D σ H := for_range Pv h0 hs hd
theorem forK_l (Pv : Nat → L2.St → Hp → Prop) (h0 : Pv 0 σ H) (hl : ∀ i σ H, i ≤ xs.length → Pv i σ H → SqL K H a xs)
    (hs : ∀ i x σ H, xs[i]? = some x → Pv i σ H → g x σ H fun σ2 H2 => tb { D with nx := Pv (i + 1), ct := Pv (i + 1), bk := D.nx } σ2 H2) (hd : ∀ σ H, Pv xs.length σ H → D.nx σ H) : forK (Itl K a) g tb D σ H := for_list Pv h0 hl hs hd
theorem forK_z (hl : xs.length = ys.length) (Pv : Nat → L2.St → Hp → Prop) (h0 : Pv 0 σ H) (hq : ∀ i σ H, Pv i σ H → SqL K H a xs ∧ SqL K H b ys)
    (hs : ∀ (i : Nat) (x y : V) (T : Addr) (σ : L2.St) (H : Hp), xs[i]? = some x → ys[i]? = some y → Pv i σ H → H T = none → g (.ref T) σ (upd H T (.tup [x, y])) fun σ2 H2 => tb { D with nx := Pv (i + 1), ct := Pv (i + 1), bk := D.nx } σ2 H2)
    (hd : ∀ σ H, Pv xs.length σ H → D.nx σ H) : forK (Itz K a b) g tb D σ H := RZ.for_zipL hl Pv h0 hq hs hd
end
section
variable {K : PySem.W.Frag} {H : Hp} {Q : VK} {a : Addr} {xs : List V} {x y z : V}
theorem g_slF {k : Nat} (h : SqL K H a xs) (q : ∀ p, H p = none → Q (.ref p) (upd H p (.lst (xs.drop k)))) : rSlL K (.ref a) (some (k : Int)) none H Q := g_slL h (by rw [cut_from]; exact q)
theorem g_slF1 (h : SqL K H a xs) (q : ∀ p, H p = none → Q (.ref p) (upd H p (.lst (xs.drop 1)))) : rSlL K (.ref a) (some 1) none H Q := g_slF (k := 1) h q
theorem g_slTo {k : Nat} (h : SqL K H a xs) (q : ∀ p, H p = none → Q (.ref p) (upd H p (.lst (xs.take k)))) : rSlL K (.ref a) none (some (k : Int)) H Q := g_slL h (by rw [cut_to]; exact q)
theorem g_slT1 (h : SqL K H a xs) (q : ∀ p, H p = none → Q (.ref p) (upd H p (.lst (xs.take 1)))) : rSlL K (.ref a) none (some 1) H Q := g_slTo (k := 1) h q
theorem g_slB (h : SqL K H a xs) (q : ∀ p, H p = none → Q (.ref p) (upd H p (.lst xs.dropLast))) : rSlL K (.ref a) none (some (-1)) H Q := g_slL h (by rw [cut_last]; exact q)
theorem g_slE (h : SqL K H a xs) (q : ∀ p, H p = none → Q (.ref p) (upd H p (.lst (xs.drop (xs.length - 1))))) : rSlL K (.ref a) (some (-1)) none H Q := g_slL h (by rw [cut_fromLast]; exact q)
theorem g_sl2 (h : SqT K H a [x, y, z]) (q : ∀ p, H p = none → Q (.ref p) (upd H p (.tup [x, y]))) : rSlT K (.ref a) none (some 2) H Q := g_slT h (by show ¬ (0 = 0 ∧ 2 = 3); decide) q
end
/-- a global number -/
theorem pe_gv {X : Cx} {x : Str} {pos : Pos} {v : V} (g : Gl X x) (h : ∃ u, X.mg x = some u ∧ RelV v u)
    (n : (x == ("__debug__" : Str)) = false := by decide) : PE X (.Name x pos) (tC v) := pe_glob g h.choose_spec.1 h.choose_spec.2 n
/-! the rules whose readings name the written part, for blocks within defs -/
section
variable {X : Cx} {K : PySem.W.Frag}
theorem ixT (e : X.K = K) : IxR X (rIxT K) := by subst e; exact ix_tup
theorem ixL (e : X.K = K) : IxR X (rIxL K) := by subst e; exact ix_list
theorem slL' (e : X.K = K) : SlR X (rSlL K) := by subst e; exact sl_list
theorem slT' (e : X.K = K) : SlR X (rSlT K) := by subst e; exact sl_tup
theorem clLen (e : X.K = K) : CallR X (.builtin "len") (Fl.rLen K) := by subst e; exact call_len'
theorem clList (e : X.K = K) : CallR X (.type "list") (Fl.rList K) := by subst e; exact call_list'
theorem clIsi (e : X.K = K) : CallR X (.builtin "isinstance") (rIsi K) := by subst e; exact call_isi
theorem opEqD (e : X.K = K) (hu : X.A.units + 64 < cLine) : OpR X (compareOp .Eq) (rEqD K) := by subst e; exact op_eqD hu
theorem opNeD (e : X.K = K) (hu : X.A.units + 64 < cLine) : OpR X (compareOp .NotEq) (rNeD K) := by subst e; exact op_neD hu
theorem opIn (e : X.K = K) : OpR X (compareOp .In) (rIn K false) := by subst e; exact op_in_seq
theorem opNotIn (e : X.K = K) : OpR X (compareOp .NotIn) (rIn K true) := by subst e; exact op_notIn_seq
def tTru (K : PySem.W.Frag) (ta : TE) : TT := fun σ H Q => ta σ H fun x H' => ∃ k, TruV K x H' k ∧ Q k H'
theorem ptTru {a : Expr} {ta : TE} (e : X.K = K) (ha : PE X a ta) (he : ∀ whole, isTrue a X.env whole = (do let v ← whole; standAt a.pos; holding [v] (truthy v))) : PT X a (tTru K ta) := by subst e; exact pt_truth ha he
theorem piL {l tg : Expr} {tl : TE} (e : X.K = K) (h : PE X l tl) : PI X tg l (iList K tl) := by subst e; exact pi_list h
theorem piT {l tg : Expr} {tl : TE} (e : X.K = K) (h : PE X l tl) : PI X tg l (iTup K tl) := by subst e; exact pi_tup h
theorem pgT {es : List Expr} {j : Nat} {t : TGs} {n : Nat} {pos : Pos} (e : X.K = K) (hc : X.calm = true) (h : PGs X es t)
    (hn : (assignEach es X.env).length = n := by rfl)
    (hst : (assignEach es X.env).findIdx? (·.1) = none := by rfl) : PG X (.Tuple es j pos) (gTup K n t) := by subst e; exact pg_tup hc h hn hst
theorem g_gtup {n : Nat} {t : TGs} {a : Addr} {xs : List V} {σ : L2.St} {H : Hp} {Q : L2.St → Hp → Prop} (h : SqT K H a xs) (e : xs.length = n) (q : t xs σ H Q) : gTup K n t (.ref a) σ H Q := ⟨a, xs, rfl, h, e, q⟩
theorem g_gcons {t : TG} {u : TGs} {v : V} {r : List V} {σ : L2.St} {H : Hp} {Q : L2.St → Hp → Prop} (q : t v σ H fun σ' H' => u r σ' H' Q) : gCons t u (v :: r) σ H Q := ⟨v, r, rfl, q⟩
theorem g_gnil {σ : L2.St} {H : Hp} {Q : L2.St → Hp → Prop} (q : Q σ H) : gNil [] σ H Q := ⟨rfl, q⟩
theorem g_truL {a : Addr} {xs : List V} {te : TE} {σ : L2.St} {H : Hp} {Q : Bool → Hp → Prop} (h : te σ H fun x H' => ∃ k, TruV K x H' k ∧ Q k H') : tTru K te σ H Q := h
end
theorem g_yes {te : TE} {R : VK} {N : Hp → Prop} {σ : L2.St} {H : Hp} (h : te σ H R) : tYes σ H fun b H3 => if b = true then te σ H3 R else N H3 := h
theorem fm_all {rs : List PyData} {n : Nat} (h : rs.length ≤ n) : (List.range n).filterMap (fun i => rs[i]?) = rs := by rw [fm_take, List.take_of_length_le h]
theorem DqA.getM {α : Type} {f : α → PyData} {S : List Addr} {H : Hp} {vs : List V} {c : List α} {i : Nat} {x : V} (h : DqA S H vs (c.map f)) (e : vs[i]? = some x) : ∃ p, c[i]? = some p ∧ Dq S H x (f p) := by
  obtain ⟨d, h1, h2⟩ := h.get e
  rw [List.getElem?_map] at h1
  cases hc : c[i]? with
  | none => rw [hc] at h1; cases h1
  | some p =>
    rw [hc] at h1
    cases h1
    exact ⟨p, rfl, h2⟩
theorem take_zip {α β : Type} {l : List α} {m : List β} {i : Nat} {x : α} {y : β} (h1 : l[i]? = some x) (h2 : m[i]? = some y) : (l.zip m).take (i + 1) = (l.zip m).take i ++ [(x, y)] := by
  rw [List.take_succ, (List.getElem?_zip_eq_some (z := (x, y))).mpr ⟨h1, h2⟩]
  rfl
theorem g_tru {K : PySem.W.Frag} {te : TE} {σ : L2.St} {H : Hp} {Q : Bool → Hp → Prop} (h : te σ H fun x H' => ∃ k, TruV K x H' k ∧ Q k H') : tTru K te σ H Q := h
theorem g_tru0 {K : PySem.W.Frag} {a : Addr} {H : Hp} {Z : Bool → Prop} (h : SqL K H a []) (q : Z false) : ∃ k, TruV K (.ref a) H k ∧ Z k := ⟨_, .inl ⟨_, h, rfl⟩, q⟩
theorem g_tru1 {K : PySem.W.Frag} {a : Addr} {x : V} {xs : List V} {H : Hp} {Z : Bool → Prop} (h : SqL K H a (x :: xs)) (q : Z true) : ∃ k, TruV K (.ref a) H k ∧ Z k := ⟨_, .inl ⟨_, h, rfl⟩, q⟩
theorem at0 {x : V} {xs : List V} : atI (x :: xs) 0 = some x := atI_nat (j := 0) rfl
theorem DqA.dl {S : List Addr} {H : Hp} {vs : List V} {ds : List PyData} (h : DqA S H vs ds) : DqA S H vs.dropLast ds.dropLast := by
  rw [List.dropLast_eq_take, List.dropLast_eq_take, h.len]
  exact h.take _
theorem dk_app {K : PySem.W.Frag} {a : Addr} {ns : List Int} {H : Hp} {Q : VK} {E : XK} (h : SqL K H a (ns.map V.int)) (k : ∀ d s H', Same H H' → Dk d s ns H' → Q (.ref d) H') : spDk K [.ref a] H Q E := ⟨a, ns, rfl, h, k⟩
def spLaw (K : PySem.W.Frag) : Sp := fun vs H Q _ => ∃ (a : Addr) (ns : List Int), vs = [.ref a] ∧ SqL K H a (ns.map V.int) ∧ ns.length ≤ 63 ∧ ∀ H', Q (.bl true) H'
theorem g_nn {A : Prop} (h : A) : V.non = V.non ∧ A := ⟨rfl, h⟩
end Fl

set_option Elab.async false
set_option linter.all false
set_option maxRecDepth 100000
set_option maxHeartbeats 4000000
/-! lines of contours: the mathematics -/
namespace Fl
open PySem PySem.Spec PyProof.Rows L2

abbrev Pr := Int × Int
def prD (p : Pr) : PyData := .tuple [.int p.1, .int p.2]
def lnD (l : List Pr) : PyData := .list (l.map prD)
def lsD (ls : List (List Pr)) : PyData := .list (ls.map lnD)
def pr (p : Pt) : Pr := (p.1, p.2.1)
def mid (p q : Pt) : Pt := ((p.1 + q.1) / 2, (p.2.1 + q.2.1) / 2, true)
def w1 (p q : Pt) : List Pt := if p.2.2 = true then [p] else if q.2.2 = true then [p] else [p, mid p q]
/-- a path and the point behind it, with its middle points -/
def wp : List Pt → Pt → List Pt
  | [], _ => []
  | [p], nx => w1 p nx
  | p :: q :: l, nx => w1 p q ++ wp (q :: l) nx
def wm : List Pt → List Pt
  | [] => []
  | p :: l => wp (p :: l) p
def cv (n a c b : Int) : Int := ((8 - n) * (8 - n) * a + 2 * n * (8 - n) * c + n * n * b + 32) / 64
def cp (a c b : Pt) (n : Nat) : Pr := (cv (n + 1) a.1 c.1 b.1, cv (n + 1) a.2.1 c.2.1 b.2.1)
def cvs (a c b : Pt) : List Pr := (List.range 8).map (cp a c b)
def cv7 (a c b : Pt) : List Pr := (List.range 7).map (cp a c b)
theorem cv_end (a c b : Int) : cv 8 a c b = b := by
  show ((8 - 8) * (8 - 8) * a + 2 * 8 * (8 - 8) * c + 8 * 8 * b + 32) / 64 = b
  omega
theorem cvs_eq (a c b : Pt) : cvs a c b = cv7 a c b ++ [pr b] := by
  have e : cp a c b 7 = pr b := Prod.ext (cv_end _ _ _) (cv_end _ _ _)
  rw [← e]
  rfl
/-- what the walk along a closed ring gives at a point -/
def s1 (a p b : Pt) : List Pr := if p.2.2 = true then (if b.2.2 = true then [pr b] else []) else cvs a p b
def e1 (a p b : Pt) : List Pr := if p.2.2 = true then [pr p] else cv7 a p b
def sp' : Pt → List Pt → List Pr
  | pv, p :: q :: l => s1 pv p q ++ sp' p (q :: l)
  | _, _ => []
def ep : Pt → List Pt → Pt → List Pr
  | _, [], _ => []
  | pv, [p], nx => e1 pv p nx
  | pv, p :: q :: l, nx => e1 pv p q ++ ep p (q :: l) nx
/-- no two neighbours are off -/
def Na : List Pt → Prop
  | p :: q :: l => (p.2.2 = true ∨ q.2.2 = true) ∧ Na (q :: l)
  | _ => True
theorem tele (h : Pt) (hh : h.2.2 = true) : ∀ (l : List Pt) (pv p : Pt), Na (p :: l ++ [h]) → (if p.2.2 = true then [pr p] else []) ++ sp' pv (p :: l ++ [h]) = ep pv (p :: l) h ++ [pr h]
  | [], pv, p, _ => by
    show (if p.2.2 = true then [pr p] else []) ++ (s1 pv p h ++ []) = e1 pv p h ++ [pr h]
    unfold s1 e1
    by_cases hp : p.2.2 = true
    · simp [hp, hh]
    · simp [hp, cvs_eq]
  | q :: l, pv, p, na => by
    have ih := tele h hh l p q na.2
    have hpq : p.2.2 = true ∨ q.2.2 = true := na.1
    show (if p.2.2 = true then [pr p] else []) ++ (s1 pv p q ++ sp' p (q :: l ++ [h])) = (e1 pv p q ++ ep p (q :: l) h) ++ [pr h]
    rw [List.append_assoc, ← ih]
    unfold s1 e1
    by_cases hp : p.2.2 = true
    · simp [hp]
    · have hq : q.2.2 = true := hpq.resolve_left hp
      simp [hp, hq, cvs_eq]

/-! by index -/
def p0 : Pt := (0, 0, false)
def st (pv : Pt) (cl : List Pt) (k : Nat) : List Pr := s1 (if k = 0 then pv else cl.getD (k - 1) p0) (cl.getD k p0) (cl.getD (k + 1) p0)
theorem st_sp : ∀ (l : List Pt) (pv p : Pt), (List.range l.length).flatMap (st pv (p :: l)) = sp' pv (p :: l)
  | [], _, _ => rfl
  | q :: l, pv, p => by
    have ih := st_sp l p q
    show (List.range (l.length + 1)).flatMap (st pv (p :: q :: l)) = s1 pv p q ++ sp' p (q :: l)
    rw [List.range_succ_eq_map, List.flatMap_cons, ← ih, List.flatMap_map]
    congr 1
    congr 1
    funext k
    cases k with
    | zero => rfl
    | succ k => rfl
def wz (c : List Pt) : List Pt := (c.zip (beg c 1)).flatMap fun z => w1 z.1 z.2
theorem wz_wp : ∀ (l : List Pt) (p nx : Pt), ((p :: l).zip (l ++ [nx])).flatMap (fun z => w1 z.1 z.2) = wp (p :: l) nx
  | [], _, _ => by simp [wp]
  | q :: l, p, nx => by
    have ih := wz_wp l q nx
    show w1 p q ++ ((q :: l).zip (l ++ [nx])).flatMap (fun z => w1 z.1 z.2) = w1 p q ++ wp (q :: l) nx
    rw [ih]
theorem wz_wm (c : List Pt) : wz c = wm c := by
  cases c with
  | nil => rfl
  | cons p l => exact wz_wp l p p
theorem w1_len (p q : Pt) : 1 ≤ (w1 p q).length ∧ (w1 p q).length ≤ 2 := by
  unfold w1
  split
  · simp
  · split <;> simp
theorem wp_len : ∀ (l : List Pt) (nx : Pt), l.length ≤ (wp l nx).length ∧ (wp l nx).length ≤ 2 * l.length
  | [], _ => ⟨Nat.le_refl _, Nat.le_refl _⟩
  | [p], nx => w1_len p nx
  | p :: q :: l, nx => by
    have ih := wp_len (q :: l) nx
    have := w1_len p q
    show _ ≤ (w1 p q ++ wp (q :: l) nx).length ∧ (w1 p q ++ wp (q :: l) nx).length ≤ _
    rw [List.length_append]
    simp only [List.length_cons] at *
    omega
theorem wm_len (c : List Pt) : c.length ≤ (wm c).length ∧ (wm c).length ≤ 2 * c.length := by
  cases c with
  | nil => exact ⟨Nat.le_refl _, Nat.le_refl _⟩
  | cons p l => exact wp_len _ _
theorem w1_head (p q : Pt) : ∃ t, w1 p q = p :: t := by
  unfold w1
  split
  · exact ⟨_, rfl⟩
  · split <;> exact ⟨_, rfl⟩
theorem wp_head (p : Pt) (l : List Pt) (nx : Pt) : ∃ t, wp (p :: l) nx = p :: t := by
  cases l with
  | nil => exact w1_head p nx
  | cons q l =>
    obtain ⟨t, e⟩ := w1_head p q
    refine ⟨t ++ wp (q :: l) nx, ?_⟩
    show w1 p q ++ _ = _
    rw [e]
    rfl
/-- in which box -/
def InB (P : Pt → Prop) : Prop := ∀ p q, P p → P q → P (mid p q)
theorem w1_in {P : Pt → Prop} (hP : InB P) {p q x : Pt} (hp : P p) (hq : P q) (m : x ∈ w1 p q) : P x := by
  unfold w1 at m
  split at m
  · rw [show x = p by simpa using m]; exact hp
  · split at m
    · rw [show x = p by simpa using m]; exact hp
    · rcases List.mem_cons.mp m with rfl | m
      · exact hp
      · rw [show x = mid p q by simpa using m]
        exact hP p q hp hq
theorem wp_in {P : Pt → Prop} (hP : InB P) : ∀ (l : List Pt) (nx : Pt), (∀ p, p ∈ l → P p) → P nx → ∀ x, x ∈ wp l nx → P x
  | [], _, _, _, _, m => nomatch m
  | [p], nx, h, hn, x, m => w1_in hP (h p (by simp)) hn m
  | p :: q :: l, nx, h, hn, x, m => by
    rcases List.mem_append.mp (show x ∈ w1 p q ++ wp (q :: l) nx from m) with m | m
    · exact w1_in hP (h p (by simp)) (h q (by simp)) m
    · exact wp_in hP (q :: l) nx (fun z mz => h z (List.mem_cons_of_mem _ mz)) hn x m
theorem wm_in {P : Pt → Prop} (hP : InB P) {c : List Pt} (h : ∀ p, p ∈ c → P p) : ∀ x, x ∈ wm c → P x := by
  cases c with
  | nil => intro x m; cases m
  | cons p l => exact wp_in hP _ _ h (h p (by simp))
theorem mem_beg {α : Type} {c : List α} {k : Nat} {x : α} : x ∈ beg c k ↔ x ∈ c := by
  unfold beg
  rw [List.mem_append]
  constructor
  · rintro (m | m)
    · exact List.mem_of_mem_drop m
    · exact List.mem_of_mem_take m
  · intro m
    rw [← List.take_append_drop k c] at m
    rcases List.mem_append.mp m with m | m
    · exact .inr m
    · exact .inl m
theorem beg_len {α : Type} (c : List α) (k : Nat) : (beg c k).length = c.length := by
  unfold beg
  rw [List.length_append, List.length_drop, List.length_take]
  omega
/-- the indexes of the points that are on -/
def ps (c : List Pt) : List Nat := (List.range c.length).filter fun i => (c.getD i p0).2.2
def ro (c : List Pt) : List Pt := match ps c with
  | [] => (wm c).drop ((wm c).length - 1) ++ (wm c).dropLast
  | k :: _ => wm (beg c k)
theorem inB_in (b : Int) : InB (PtIn b) := fun p q hp hq => by
  obtain ⟨h1, h2, h3, h4⟩ := hp
  obtain ⟨g1, g2, g3, g4⟩ := hq
  refine ⟨?_, ?_, ?_, ?_⟩
  · show -b ≤ (p.1 + q.1) / 2; omega
  · show (p.1 + q.1) / 2 ≤ b; omega
  · show -b ≤ (p.2.1 + q.2.1) / 2; omega
  · show (p.2.1 + q.2.1) / 2 ≤ b; omega
theorem ro_in {P : Pt → Prop} (hP : InB P) {c : List Pt} (h : ∀ p, p ∈ c → P p) : ∀ x, x ∈ ro c → P x := by
  intro x m
  unfold ro at m
  split at m
  · refine wm_in hP h x ?_
    rcases List.mem_append.mp m with m | m
    · exact List.mem_of_mem_drop m
    · exact List.dropLast_subset _ m
  · exact wm_in hP (fun p mp => h p (mem_beg.mp mp)) x m
theorem ro_len (c : List Pt) : (ro c).length ≤ 2 * c.length ∧ c.length ≤ (ro c).length := by
  unfold ro
  split
  · have := wm_len c
    rw [List.length_append, List.length_drop, List.length_dropLast]
    omega
  · rename_i k _ _
    have := wm_len (beg c k)
    rw [beg_len] at this
    omega
/-- the line of a contour -/
def lnOf (c : List Pt) : List Pr := match ro c with
  | [] => []
  | r :: l => (pr r :: (List.range (r :: l).length).flatMap (st p0 (r :: l ++ [r]))).dropLast
/-! promises -/
def fMid (ds : List PyData) (d : PyData) : Prop := ∃ p q : Pt, ds = [ptD p, ptD q] ∧ d = ptD (mid p q)
def spCv : Sp := fun vs H Q _ => ∃ n a c b : Int, vs = [.int n, .int a, .int c, .int b] ∧ 0 ≤ n ∧ n ≤ 8 ∧ a.natAbs ≤ 10 ^ 7 ∧ c.natAbs ≤ 10 ^ 7 ∧ b.natAbs ≤ 10 ^ 7 ∧ Q (.int (cv n a c b)) H
theorem cv_app {n a c b : Int} {H : Hp} {Q : VK} {E : XK} (h1 : 0 ≤ n) (h2 : n ≤ 8) (h3 : a.natAbs ≤ 10 ^ 7) (h4 : c.natAbs ≤ 10 ^ 7) (h5 : b.natAbs ≤ 10 ^ 7) (q : Q (.int (cv n a c b)) H) : spCv [.int n, .int a, .int c, .int b] H Q E := ⟨n, a, c, b, rfl, h1, h2, h3, h4, h5, q⟩
def fCur (ds : List PyData) (d : PyData) : Prop := ∃ a c b : Pt, ds = [ptD a, ptD c, ptD b] ∧ PtIn (10 ^ 6) a ∧ PtIn (10 ^ 6) c ∧ PtIn (10 ^ 6) b ∧ d = lnD (cvs a c b)
def fWm (ds : List PyData) (d : PyData) : Prop := ∃ c : List Pt, ds = [ctD c] ∧ c.length ≤ 100 ∧ d = ctD (wm c)
def fRo (ds : List PyData) (d : PyData) : Prop := ∃ c : List Pt, ds = [ctD c] ∧ c.length ≤ 100 ∧ d = ctD (ro c)
def fLo (ds : List PyData) (d : PyData) : Prop := ∃ c : List Pt, ds = [ctD c] ∧ c.length ≤ 100 ∧ (∀ p, p ∈ c → PtIn (10 ^ 6) p) ∧ d = lnD (lnOf c)
def fLs (ds : List PyData) (d : PyData) : Prop := ∃ o : List (List Pt), ds = [ouD o] ∧ o.length ≤ 100 ∧ (∀ c, c ∈ o → c.length ≤ 100 ∧ ∀ p, p ∈ c → PtIn (10 ^ 6) p) ∧ d = lsD (o.map lnOf)
theorem fm_filter {α β : Type} (p : α → Bool) (f : α → β) : ∀ l : List α, l.filterMap (fun i => if p i = true then some (f i) else none) = (l.filter p).map f
  | [] => rfl
  | x :: l => by
    rw [List.filterMap_cons, List.filter_cons, fm_filter p f l]
    by_cases h : p x = true
    · simp [h]
    · simp [h]
theorem ps_fm (c : List Pt) : (List.range c.length).filterMap (fun i => if (c.getD i p0).2.2 = true then some (PyData.int (i : Int)) else none) = (ps c).map fun i : Nat => PyData.int (i : Int) := fm_filter _ _ _
theorem ps_lt {c : List Pt} {k : Nat} (h : k ∈ ps c) : k < c.length := by
  unfold ps at h
  exact List.mem_range.mp (List.mem_filter.mp h).1
theorem ps_on {c : List Pt} {k : Nat} (h : k ∈ ps c) : (c.getD k p0).2.2 = true := (List.mem_filter.mp h).2
/-! a ring begins with a point that is on -/
theorem w1_last (p q : Pt) : p.2.2 = false → q.2.2 = false → (w1 p q).getLast? = some (mid p q) := fun h1 h2 => by
  unfold w1
  simp [h1, h2]
theorem wp_last_off : ∀ (l : List Pt) (p nx : Pt), (∀ x, x ∈ p :: l → x.2.2 = false) → nx.2.2 = false → ∃ z, (wp (p :: l) nx).getLast? = some z ∧ z.2.2 = true
  | [], p, nx, h, hn => ⟨mid p nx, w1_last p nx (h p (by simp)) hn, rfl⟩
  | q :: l, p, nx, h, hn => by
    obtain ⟨z, e, hz⟩ := wp_last_off l q nx (fun x m => h x (List.mem_cons_of_mem _ m)) hn
    refine ⟨z, ?_, hz⟩
    show (w1 p q ++ wp (q :: l) nx).getLast? = _
    rw [List.getLast?_append, e]
    rfl
theorem beg_head {α : Type} {c : List α} {k : Nat} {x : α} (h : c[k]? = some x) : ∃ t, beg c k = x :: t := by
  unfold beg
  have hk := (List.getElem?_eq_some_iff.mp h).1
  rw [List.drop_eq_getElem_cons hk, (List.getElem?_eq_some_iff.mp h).2]
  exact ⟨_, rfl⟩
theorem getD_of {c : List Pt} {k : Nat} {x : Pt} (h : c[k]? = some x) : c.getD k p0 = x := by
  rw [List.getD_eq_getElem?_getD, h]
  rfl
theorem ro_on {c : List Pt} {r : Pt} {l : List Pt} (h : ro c = r :: l) : r.2.2 = true := by
  unfold ro at h
  cases hps : ps c with
  | nil =>
    rw [hps] at h
    have h : (wm c).drop ((wm c).length - 1) ++ (wm c).dropLast = r :: l := h
    cases c with
    | nil => cases h
    | cons p t =>
      have off : ∀ x, x ∈ p :: t → x.2.2 = false := fun x m => by
        obtain ⟨i, hi⟩ := List.getElem?_of_mem m
        cases hx : x.2.2 with
        | false => rfl
        | true =>
          have : i ∈ ps (p :: t) := by
            refine List.mem_filter.mpr ⟨List.mem_range.mpr (List.getElem?_eq_some_iff.mp hi).1, ?_⟩
            rw [getD_of hi]
            exact hx
          rw [hps] at this
          cases this
      obtain ⟨z, e, hz⟩ := wp_last_off t p p off (off p (by simp))
      have e' : (wm (p :: t)).drop ((wm (p :: t)).length - 1) = [z] := by
        have e2 : (wm (p :: t)).getLast? = some z := e
        rw [List.getLast?_eq_getElem?] at e2
        have hlt := (List.getElem?_eq_some_iff.mp e2).1
        rw [List.drop_eq_getElem_cons hlt, (List.getElem?_eq_some_iff.mp e2).2, List.drop_of_length_le (by omega)]
      rw [e'] at h
      have : z = r := by
        have h : z :: (wm (p :: t)).dropLast = r :: l := h
        exact (List.cons.inj h).1
      rw [← this]
      exact hz
  | cons k t =>
    rw [hps] at h
    have h : wm (beg c k) = r :: l := h
    have hk : k ∈ ps c := by rw [hps]; simp
    have hkl : k < c.length := ps_lt hk
    have hx : c[k]? = some c[k] := List.getElem?_eq_getElem hkl
    have hon := ps_on hk
    rw [getD_of hx] at hon
    obtain ⟨u, hu⟩ := beg_head hx
    rw [hu] at h
    obtain ⟨v, hv⟩ := wp_head c[k] u c[k]
    have h : wp (c[k] :: u) c[k] = r :: l := h
    rw [hv] at h
    rw [← (List.cons.inj h).1]
    exact hon
end Fl

set_option Elab.async false
set_option linter.all false
set_option maxRecDepth 100000
set_option maxHeartbeats 4000000
/-! the line of a contour, in a closed form; it goes around with the contour -/
namespace Fl
open PySem PySem.Spec PyProof.Rows L2

def Rot {α : Type} (a b : List α) : Prop := ∃ u v, a = u ++ v ∧ b = v ++ u
theorem Rot.refl {α : Type} (a : List α) : Rot a a := ⟨a, [], by simp, by simp⟩
theorem Rot.symm {α : Type} {a b : List α} (h : Rot a b) : Rot b a := by
  obtain ⟨u, v, rfl, rfl⟩ := h
  exact ⟨v, u, rfl, rfl⟩
theorem Rot.trans {α : Type} {a b c : List α} (h : Rot a b) (k : Rot b c) : Rot a c := by
  obtain ⟨u, v, rfl, hb⟩ := h
  obtain ⟨u', v', rfl, rfl⟩ := k
  rcases List.append_eq_append_iff.mp hb with ⟨w, h1, h2⟩ | ⟨w, h1, h2⟩
  · -- v = u' ++ w, v' = w ++ u
    subst h1 h2
    exact ⟨u ++ u', w, by simp, by simp⟩
  · subst h1 h2
    exact ⟨w, v' ++ v, by simp, by simp⟩
theorem Rot.beg {α : Type} (a : List α) (k : Nat) : Rot a (Fl.beg a k) := ⟨a.take k, a.drop k, (List.take_append_drop k a).symm, rfl⟩
theorem Rot.len {α : Type} {a b : List α} (h : Rot a b) : a.length = b.length := by
  obtain ⟨u, v, rfl, rfl⟩ := h
  simp [Nat.add_comm]
/-- a turn by less than the whole length -/
theorem Rot.ex {α : Type} {a b : List α} (h : Rot a b) (n : a ≠ []) : ∃ k, k < a.length ∧ Fl.beg a k = b := by
  obtain ⟨u, v, rfl, rfl⟩ := h
  cases v with
  | nil =>
    refine ⟨0, ?_, ?_⟩
    · cases u with
      | nil => exact absurd rfl n
      | cons x u => simp
    · unfold Fl.beg
      simp
  | cons x v =>
    refine ⟨u.length, by simp, ?_⟩
    unfold Fl.beg
    simp

/-! middle points go around -/
theorem wp_app : ∀ (u : List Pt) (p : Pt) (v : List Pt) (nx : Pt), wp (u ++ p :: v) nx = wp u p ++ wp (p :: v) nx
  | [], _, _, _ => rfl
  | [x], p, v, nx => rfl
  | x :: y :: u, p, v, nx => by
    show w1 x y ++ wp (y :: u ++ p :: v) nx = (w1 x y ++ wp (y :: u) p) ++ wp (p :: v) nx
    rw [wp_app (y :: u) p v nx, List.append_assoc]
theorem wm_rot {a b : List Pt} (h : Rot a b) : Rot (wm a) (wm b) := by
  obtain ⟨u, v, rfl, rfl⟩ := h
  cases u with
  | nil => simpa using Rot.refl _
  | cons x u =>
    cases v with
    | nil => simpa using Rot.refl _
    | cons y v =>
      have e1 : wm (x :: u ++ y :: v) = wp (x :: u) y ++ wp (y :: v) x := wp_app (x :: u) y v x
      have e2 : wm (y :: v ++ x :: u) = wp (y :: v) x ++ wp (x :: u) y := wp_app (y :: v) x u y
      exact ⟨_, _, e1, e2⟩
theorem ro_rot (c : List Pt) : Rot (wm c) (ro c) := by
  unfold ro
  cases ps c with
  | nil =>
    refine ⟨(wm c).dropLast, (wm c).drop ((wm c).length - 1), ?_, rfl⟩
    rw [List.dropLast_eq_take, List.take_append_drop]
  | cons k l => exact wm_rot (Rot.beg c k)

/-! no two neighbours are off, around -/
def Nc : List Pt → Pt → Prop
  | [], _ => True
  | [p], nx => p.2.2 = true ∨ nx.2.2 = true
  | p :: q :: l, nx => (p.2.2 = true ∨ q.2.2 = true) ∧ Nc (q :: l) nx
theorem Nc.app : ∀ (u : List Pt) (p : Pt) (v : List Pt) (nx : Pt), Nc (u ++ p :: v) nx ↔ Nc u p ∧ Nc (p :: v) nx
  | [], _, _, _ => by simp [Nc]
  | [x], p, v, nx => by
    show (x.2.2 = true ∨ p.2.2 = true) ∧ Nc (p :: v) nx ↔ _
    rfl
  | x :: y :: u, p, v, nx => by
    show (x.2.2 = true ∨ y.2.2 = true) ∧ Nc (y :: u ++ p :: v) nx ↔ ((x.2.2 = true ∨ y.2.2 = true) ∧ Nc (y :: u) p) ∧ Nc (p :: v) nx
    rw [Nc.app (y :: u) p v nx, and_assoc]
theorem Nc.na : ∀ (l : List Pt) (nx : Pt), Nc l nx → Na (l ++ [nx])
  | [], _, _ => trivial
  | [p], nx, h => ⟨h, trivial⟩
  | p :: q :: l, nx, h => ⟨h.1, Nc.na (q :: l) nx h.2⟩
theorem w1_nc (p q : Pt) : Nc (w1 p q) q := by
  unfold w1
  by_cases hp : p.2.2 = true
  · rw [if_pos hp]; exact .inl hp
  · rw [if_neg hp]
    by_cases hq : q.2.2 = true
    · rw [if_pos hq]; exact .inr hq
    · rw [if_neg hq]
      exact ⟨.inr rfl, .inl rfl⟩
theorem wp_nc : ∀ (l : List Pt) (nx : Pt), Nc (wp l nx) nx
  | [], _ => trivial
  | [p], nx => w1_nc p nx
  | p :: q :: l, nx => by
    obtain ⟨t, e⟩ := wp_head q l nx
    have ih := wp_nc (q :: l) nx
    show Nc (w1 p q ++ wp (q :: l) nx) nx
    rw [e] at ih ⊢
    exact (Nc.app _ _ _ _).mpr ⟨w1_nc p q, ih⟩
/-- around -/
def Nr : List Pt → Prop
  | [] => True
  | p :: l => Nc (p :: l) p
theorem Nr.rot {a b : List Pt} (h : Rot a b) (k : Nr a) : Nr b := by
  obtain ⟨u, v, rfl, rfl⟩ := h
  cases u with
  | nil => simpa using k
  | cons x u =>
    cases v with
    | nil => simpa using k
    | cons y v =>
      have k : Nc (x :: u ++ y :: v) x := k
      show Nc (y :: v ++ x :: u) y
      rw [Nc.app] at k ⊢
      exact ⟨k.2, k.1⟩
theorem wm_nr (c : List Pt) : Nr (wm c) := by
  cases c with
  | nil => trivial
  | cons p l =>
    obtain ⟨t, e⟩ := wp_head p l p
    have h := wp_nc (p :: l) p
    show Nr (wp (p :: l) p)
    rw [e] at h ⊢
    exact h
theorem ro_nr (c : List Pt) : Nr (ro c) := (wm_nr c).rot (ro_rot c)

/-! the line, around -/
def er (l : List Pt) : List Pr := match l with
  | [] => []
  | p :: t => ep ((p :: t).getLast (by simp)) (p :: t) p
theorem ep_app : ∀ (u : List Pt) (pv p : Pt) (v : List Pt) (nx x : Pt), ep pv (x :: u ++ p :: v) nx = ep pv (x :: u) p ++ ep ((x :: u).getLast (by simp)) (p :: v) nx
  | [], _, _, _, _, _ => rfl
  | y :: u, pv, p, v, nx, x => by
    have ih := ep_app u x p v nx y
    show e1 pv x y ++ ep x (y :: u ++ p :: v) nx = (e1 pv x y ++ ep x (y :: u) p) ++ ep ((x :: y :: u).getLast (by simp)) (p :: v) nx
    rw [ih, List.append_assoc]
    rfl
theorem er_rot {a b : List Pt} (h : Rot a b) : Rot (er a) (er b) := by
  obtain ⟨u, v, rfl, rfl⟩ := h
  cases u with
  | nil => simpa using Rot.refl _
  | cons x u =>
    cases v with
    | nil => simpa using Rot.refl _
    | cons y v =>
      have g1 : (x :: u ++ y :: v).getLast (by simp) = (y :: v).getLast (by simp) := List.getLast_append_of_ne_nil (by simp) (by simp)
      have g2 : (y :: v ++ x :: u).getLast (by simp) = (x :: u).getLast (by simp) := List.getLast_append_of_ne_nil (by simp) (by simp)
      refine ⟨ep ((y :: v).getLast (by simp)) (x :: u) y, ep ((x :: u).getLast (by simp)) (y :: v) x, ?_, ?_⟩
      · show ep ((x :: u ++ y :: v).getLast (by simp)) (x :: u ++ y :: v) x = _
        rw [g1, ep_app]
      · show ep ((y :: v ++ x :: u).getLast (by simp)) (y :: v ++ x :: u) y = _
        rw [g2, ep_app]
theorem lnOf_er (c : List Pt) : lnOf c = er (ro c) := by
  unfold lnOf
  have hn := ro_nr c
  cases hro : ro c with
  | nil => rfl
  | cons r l =>
    have hr := ro_on hro
    rw [hro] at hn
    have hna : Na (r :: l ++ [r]) := Nc.na _ _ hn
    have h1 := tele r hr l ((r :: l).getLast (by simp)) r hna
    rw [if_pos hr] at h1
    have h2 : (List.range (r :: l).length).flatMap (st p0 (r :: l ++ [r])) = sp' p0 (r :: l ++ [r]) := by
      have := st_sp (l ++ [r]) p0 r
      rw [List.length_append] at this
      exact this
    have h3 : sp' p0 (r :: l ++ [r]) = sp' ((r :: l).getLast (by simp)) (r :: l ++ [r]) := by
      cases l with
      | nil =>
        show s1 _ r r ++ [] = s1 _ r r ++ []
        unfold s1
        simp [hr]
      | cons q l =>
        show s1 _ r q ++ _ = s1 _ r q ++ _
        unfold s1
        simp [hr]
    show (pr r :: (List.range (r :: l).length).flatMap (st p0 (r :: l ++ [r]))).dropLast = ep ((r :: l).getLast (by simp)) (r :: l) r
    rw [h2, h3]
    have h4 : pr r :: sp' ((r :: l).getLast (by simp)) (r :: l ++ [r]) = ep ((r :: l).getLast (by simp)) (r :: l) r ++ [pr r] := h1
    rw [h4, List.dropLast_concat]
theorem lnOf_rot {a b : List Pt} (h : Rot a b) : Rot (lnOf a) (lnOf b) := by
  rw [lnOf_er, lnOf_er]
  exact er_rot ((ro_rot a).symm.trans ((wm_rot h).trans (ro_rot b)))
theorem lnOf_ne {c : List Pt} (h : c ≠ []) : lnOf c ≠ [] := by
  rw [lnOf_er]
  have hl := ro_len c
  cases hro : ro c with
  | nil =>
    rw [hro] at hl
    exact absurd (List.eq_nil_of_length_eq_zero (by simpa using hl.2)) h
  | cons r l =>
    have hr := ro_on hro
    show ep _ (r :: l) r ≠ []
    cases l with
    | nil =>
      show e1 _ r r ≠ []
      unfold e1
      rw [if_pos hr]
      simp
    | cons q l =>
      show e1 _ r q ++ _ ≠ []
      unfold e1
      rw [if_pos hr]
      simp
end Fl
namespace Fl
open PySem PySem.Spec PyProof.Rows L2
theorem canLay_all (P : PyData → Prop) (h : ∀ d, P d → d.canLay0 = true) : ∀ ds : List PyData, (∀ d, d ∈ ds → P d) → PyData.canLayAll0 ds = true
  | [], _ => by simp [PyData.canLayAll0]
  | d :: ds, k => by
    simp [PyData.canLayAll0, h d (k d (by simp)), canLay_all P h ds (fun e m => k e (List.mem_cons_of_mem _ m))]
theorem depth_all (n : Nat) : ∀ ds : List PyData, (∀ d, d ∈ ds → d.depth ≤ n) → PyData.depthAll ds ≤ n
  | [], _ => by simp [PyData.depthAll]
  | d :: ds, k => by
    have h1 := k d (by simp)
    have h2 := depth_all n ds (fun e m => k e (List.mem_cons_of_mem _ m))
    simp only [PyData.depthAll]
    omega
theorem sh_list {ds : List PyData} {n : Nat} (h : ∀ d, d ∈ ds → d.canLay0 = true ∧ d.depth ≤ n) (hn : n < 64) : SeqAt.shaped (.list ds) = true := by
  unfold SeqAt.shaped
  have h1 := canLay_all (fun d => d.canLay0 = true) (fun _ h => h) ds (fun d m => (h d m).1)
  have h2 := depth_all n ds (fun d m => (h d m).2)
  have h3 : (PyData.list ds).depth = PyData.depthAll ds + 1 := by simp [PyData.depth]
  have h4 : (PyData.list ds).canLay0 = true := by simp [PyData.canLay0, h1]
  rw [h4, Bool.true_and, decide_eq_true_eq, h3]
  omega
theorem pr_lay (p : Pr) : (prD p).canLay0 = true ∧ (prD p).depth ≤ 1 := by
  unfold prD
  simp [PyData.canLay0, PyData.canLayAll0, PyData.depth, PyData.depthAll]
theorem sh_ln (l : List Pr) : SeqAt.shaped (lnD l) = true := sh_list (n := 1) (fun d m => by
  obtain ⟨p, _, rfl⟩ := List.mem_map.mp m
  exact pr_lay p) (by decide)
theorem eqv_self {d : PyData} (h : SeqAt.shaped d = true) : PyData.eqv d d = true := SeqAt.eqv_refl d (SeqAt.canLay_of_shaped h)
theorem g_eqD {K : PySem.W.Frag} {S T : List Addr} {H : Hp} {x y : V} {d e : PyData} {Q : VK} (h1 : Dq S H x d) (h2 : Dq T H y e) (s1 : SeqAt.shaped d = true) (s2 : SeqAt.shaped e = true) (q : Q (.bl (PyData.eqv d e)) H) : rEqD K x y H Q :=
  ⟨d, e, h1.dp (nodict_sh s1), h2.dp (nodict_sh s2), s1, s2, q⟩
theorem g_neD' {K : PySem.W.Frag} {S T : List Addr} {H : Hp} {x y : V} {d e : PyData} {Q : VK} (h1 : Dq S H x d) (h2 : Dq T H y e) (s1 : SeqAt.shaped d = true) (s2 : SeqAt.shaped e = true) (q : Q (.bl (!PyData.eqv d e)) H) : rNeD K x y H Q :=
  ⟨d, e, h1.dp (nodict_sh s1), h2.dp (nodict_sh s2), s1, s2, q⟩
end Fl
namespace Fl
open PySem PySem.Spec PyProof.Rows L2
theorem e1_len (a p b : Pt) : (e1 a p b).length ≤ 7 := by
  unfold e1
  split
  · simp
  · simp [cv7]
theorem ep_len : ∀ (l : List Pt) (pv nx : Pt), (ep pv l nx).length ≤ 7 * l.length
  | [], _, _ => Nat.le_refl _
  | [p], pv, nx => e1_len pv p nx
  | p :: q :: l, pv, nx => by
    have ih := ep_len (q :: l) p nx
    have h := e1_len pv p q
    show (e1 pv p q ++ ep p (q :: l) nx).length ≤ _
    rw [List.length_append]
    simp only [List.length_cons] at *
    omega
theorem lnOf_len (c : List Pt) : (lnOf c).length ≤ 14 * c.length := by
  rw [lnOf_er]
  have h := (ro_len c).1
  unfold er
  cases hro : ro c with
  | nil => simp
  | cons r l =>
    rw [hro] at h
    have := ep_len (r :: l) ((r :: l).getLast (by simp)) r
    show (ep ((r :: l).getLast (by simp)) (r :: l) r).length ≤ _
    omega
end Fl

set_option Elab.async false
set_option linter.all false
set_option maxRecDepth 100000
set_option maxHeartbeats 4000000
/-! flattened lists; least and greatest numbers; the same data twice -/
namespace Fl
open PySem PySem.Spec PyProof.Rows L2
section
variable {K : PySem.W.Frag} {S : List Addr} {H1 : Hp} {Q : VK}
def lc2K (J : It) (g : TG) (tt : TT) (wi1 : TI) (g1 : TG) (tt1 : TT) (te : TE) (vs vs1 : List Nat) (σ : L2.St) (H1 : Hp) (Q : VK) : Prop :=
  ∀ B, H1 B = none → ∃ W : Nat → Nat → Hp → Prop, (∃ m, W 0 m (upd H1 B (.lst []))) ∧ ∀ i m H, W i m H →
    (J.stop i H ∧ Q (.ref B) H) ∨ (J.go i H ∧ ∃ Nx : Hp → Prop, (∀ H', Nx H' → ∃ m', m' < m ∧ W (i + 1) m' H') ∧
      ∀ x H', J.yld i H x H' → g x (wipe σ vs) H' fun σ2 H2 => wipe σ2 vs = wipe σ vs ∧ tt σ2 H2 fun b H3 =>
        if b = true then wi1 σ2 H3 fun J1 H4 => ∃ W1 : Nat → Nat → Hp → Prop, (∃ m, W1 0 m H4) ∧ ∀ j k H, W1 j k H →
          (J1.stop j H ∧ Nx H) ∨ (J1.go j H ∧ ∃ Nx1 : Hp → Prop, (∀ H', Nx1 H' → ∃ k', k' < k ∧ W1 (j + 1) k' H') ∧
            ∀ x H', J1.yld j H x H' → g1 x (wipe σ2 vs1) H' fun σ3 H5 => wipe σ3 vs1 = wipe σ2 vs1 ∧ tt1 σ3 H5 fun b H6 =>
              if b = true then te σ3 H6 fun y H7 => ∃ acc, H7 B = some (.lst acc) ∧ acc.length < sizeLine ∧ Nx1 (upd H7 B (.lst (acc ++ [y]))) else Nx1 H6)
        else Nx H3)
theorem g_lc2 {wi : TI} {g : TG} {tt : TT} {wi1 : TI} {g1 : TG} {tt1 : TT} {te : TE} {vs vs1 : List Nat} {σ : L2.St} {H : Hp} (h : wi σ H fun J H1 => lc2K J g tt wi1 g1 tt1 te vs vs1 σ H1 Q) : tLc2 wi g tt wi1 g1 tt1 te vs vs1 σ H Q := h
theorem g_yesI {A B : Hp → Prop} {σ : L2.St} {H : Hp} (h : A H) : tYes σ H (fun b H3 => if b = true then A H3 else B H3) := h
structure FlatAt (S : List Addr) (H1 : Hp) (D : Addr) (ds : List PyData) (H : Hp) : Prop where
  ex : ∃ acc, H D = some (.lst acc) ∧ DqA (D :: S) H acc ds
  fr : Fr [D] H1 H
/-- [y for x in xs for y in x] -/
theorem lcLL {a : Addr} {es : List (List PyData)} {vs vs1 : List Nat} {σ : L2.St} {i0 j0 : Nat} (hS : Al S H1) (ha : Dq S H1 (.ref a) (.list (es.map PyData.list))) (hz : es.flatten.length < 1000)
    (hw : ∀ x, wipe ((wipe σ vs).set i0 (some x)) vs = wipe σ vs) (hw1 : ∀ x y, wipe ((wipe ((wipe σ vs).set i0 (some x)) vs1).set j0 (some y)) vs1 = wipe ((wipe σ vs).set i0 (some x)) vs1)
    (hi0 : ∀ x, ((wipe σ vs).set i0 (some x))[i0]? = some (some x)) (hj0 : ∀ x y, ((wipe ((wipe σ vs).set i0 (some x)) vs1).set j0 (some y))[j0]? = some (some y))
    (q : ∀ (D : Addr) (H : Hp), Same H1 H → H1 D = none → Dq S H (.ref D) (.list es.flatten) → Q (.ref D) H) :
    lc2K (Itl K a) (gName i0) tYes (iList K (tVar i0)) (gName j0) tYes (tVar j0) vs vs1 σ H1 Q := by
  intro D hD
  obtain ⟨a', xs, ea, na, hxs, hall⟩ := ha.lstE
  cases ea
  have hlx := hall.len
  rw [List.length_map] at hlx
  have hDa : a ≠ D := fun e => by rw [e, hD] at hxs; cases hxs
  have hDS : D ∉ S := hS.ni hD
  refine ⟨fun i m H => m = xs.length - i ∧ i ≤ xs.length ∧ FlatAt S H1 D (es.take i).flatten H, ⟨_, rfl, Nat.zero_le _, ⟨⟨[], upd_same, .nil⟩, Fr.same (Fl.Same.new hD)⟩⟩, ?_⟩
  rintro i m H ⟨rfl, hle, F⟩
  have hsm : Same H1 H := sm_of hD F.fr
  have qa : SqL K H a xs := SqL.of (F.fr a _ (by simpa using hDa) hxs)
  by_cases hlt : i < xs.length
  · refine .inr ⟨⟨xs, xs[i], qa, by simp [hlt]⟩, FlatAt S H1 D (es.take (i + 1)).flatten, fun H' p => ⟨xs.length - (i + 1), by omega, rfl, hlt, p⟩, fun x H' y => ?_⟩
    obtain ⟨e, y⟩ := y
    subst e
    have hx := y xs qa
    refine g_name ⟨hw x, g_yesI ?_⟩
    obtain ⟨e, he, dx⟩ := ((hall.new hD).same hsm).getM hx
    obtain ⟨b, zs, rfl, nb, hb, hB⟩ := dx.lstE
    have hDb : b ≠ D := fun e => nb (by rw [e]; simp)
    have hlz := hB.len
    have hflat : (es.take (i + 1)).flatten = (es.take i).flatten ++ e := by
      rw [List.take_succ, he, List.flatten_append]
      simp
    have hsub : (es.take (i + 1)).flatten.length ≤ es.flatten.length := by
      conv => rhs; rw [← List.take_append_drop (i + 1) es, List.flatten_append, List.length_append]
      omega
    refine g_il (g_var (hi0 _) (g_el (SqL.of hb) ?_))
    refine ⟨fun j k H => k = zs.length - j ∧ j ≤ zs.length ∧ FlatAt S H1 D ((es.take i).flatten ++ e.take j) H ∧ Fr [D] H' H, ⟨_, rfl, Nat.zero_le _, by simpa using F, Fr.refl⟩, ?_⟩
    rintro j k H2 ⟨rfl, hj, F2, f2⟩
    have qb : SqL K H2 b zs := SqL.of (f2 b _ (by simpa using hDb) hb)
    by_cases hjl : j < zs.length
    · refine .inr ⟨⟨zs, zs[j], qb, by simp [hjl]⟩, fun H => FlatAt S H1 D ((es.take i).flatten ++ e.take (j + 1)) H ∧ Fr [D] H' H, fun H3 p => ⟨zs.length - (j + 1), by omega, rfl, hjl, p⟩, fun x2 H3 y2 => ?_⟩
      obtain ⟨e2, y2⟩ := y2
      subst e2
      have hx2 := y2 zs qb
      refine g_name ⟨hw1 _ x2, g_yesI (g_var (hj0 _ x2) ?_)⟩
      obtain ⟨⟨acc, hacc, hA⟩, hf⟩ := F2
      have hfS : Fr (D :: S) H' H3 := f2.mono fun b m => by simpa using Or.inl (show b = D by simpa using m)
      obtain ⟨e', he', dx2⟩ := (hB.fr hfS).get hx2
      have hal := hA.len
      have hlen : ((es.take i).flatten ++ e.take j).length < 1000 := by
        rw [hflat] at hsub
        rw [List.length_append] at hsub ⊢
        rw [List.length_take]
        omega
      refine ⟨acc, hacc, ?_, ⟨⟨acc ++ [x2], upd_same, ?_⟩, hf.trans (Fr.upd (by simp))⟩, f2.trans (Fr.upd (by simp))⟩
      · have : (1000 : Nat) ≤ sizeLine := by decide
        omega
      · rw [List.take_succ, he', ← List.append_assoc]
        exact (hA.app (.one dx2)).fr (Fr.upd (by simp))
    · have ej : j = zs.length := by omega
      subst ej
      refine .inl ⟨⟨zs, qb, Nat.le_refl _⟩, ?_⟩
      rw [hflat]
      rw [List.take_of_length_le (l := e) (i := zs.length) (by omega)] at F2
      exact F2
  · have e : i = xs.length := by omega
    subst e
    refine .inl ⟨⟨xs, qa, Nat.le_refl _⟩, ?_⟩
    rw [List.take_of_length_le (by omega)] at F
    obtain ⟨⟨acc, hacc, hA⟩, hf⟩ := F
    exact q D _ hsm hD (.lst hDS hacc hA.tail)
end

/-! the least and the greatest -/
def IsMin (m : Int) (l : List Int) : Prop := m ∈ l ∧ ∀ y, y ∈ l → m ≤ y
def IsMax (m : Int) (l : List Int) : Prop := m ∈ l ∧ ∀ y, y ∈ l → y ≤ m
theorem ex_min : ∀ l : List Int, l ≠ [] → ∃ m, IsMin m l
  | [], h => absurd rfl h
  | [x], _ => ⟨x, by simp, fun y m => by rw [show y = x by simpa using m]; exact Int.le_refl _⟩
  | x :: z :: l, _ => by
    obtain ⟨m, h1, h2⟩ := ex_min (z :: l) (by simp)
    rcases Int.le_total x m with h | h
    · refine ⟨x, by simp, fun y my => ?_⟩
      rcases List.mem_cons.mp my with rfl | my
      · exact Int.le_refl _
      · exact Int.le_trans h (h2 y my)
    · refine ⟨m, List.mem_cons_of_mem _ h1, fun y my => ?_⟩
      rcases List.mem_cons.mp my with rfl | my
      · exact h
      · exact h2 y my
theorem ex_max : ∀ l : List Int, l ≠ [] → ∃ m, IsMax m l
  | [], h => absurd rfl h
  | [x], _ => ⟨x, by simp, fun y m => by rw [show y = x by simpa using m]; exact Int.le_refl _⟩
  | x :: z :: l, _ => by
    obtain ⟨m, h1, h2⟩ := ex_max (z :: l) (by simp)
    rcases Int.le_total x m with h | h
    · refine ⟨m, List.mem_cons_of_mem _ h1, fun y my => ?_⟩
      rcases List.mem_cons.mp my with rfl | my
      · exact h
      · exact h2 y my
    · refine ⟨x, by simp, fun y my => ?_⟩
      rcases List.mem_cons.mp my with rfl | my
      · exact Int.le_refl _
      · exact Int.le_trans (h2 y my) h
theorem IsMin.eq {m n : Int} {l : List Int} (h : IsMin m l) (k : IsMin n l) : m = n := Int.le_antisymm (h.2 n k.1) (k.2 m h.1)
theorem IsMax.eq {m n : Int} {l : List Int} (h : IsMax m l) (k : IsMax n l) : m = n := Int.le_antisymm (k.2 m h.1) (h.2 n k.1)
theorem ints_of {S : List Addr} {H : Hp} : ∀ {xs : List V} {ns : List Int}, DqA S H xs (ns.map PyData.int) → xs = ns.map V.int
  | _, [], h => h.nilE
  | _, n :: ns, h => by
    obtain ⟨v, ws, rfl, hv, hw⟩ := h.consE
    rw [hv.intE, ints_of hw]
    rfl
def rMinL (K : PySem.W.Frag) : List V → Hp → VK → Prop := fun vs H Q => ∃ (a : Addr) (ns : List Int), vs = [V.ref a] ∧ SqL K H a (ns.map V.int) ∧ ∃ m, IsMin m ns ∧ Q (.int m) H
def rMaxL (K : PySem.W.Frag) : List V → Hp → VK → Prop := fun vs H Q => ∃ (a : Addr) (ns : List Int), vs = [V.ref a] ∧ SqL K H a (ns.map V.int) ∧ ∃ m, IsMax m ns ∧ Q (.int m) H
section
variable {X : Cx} {K : PySem.W.Frag}
theorem clMin (e : X.K = K) (hc : X.calm = true) : CallR X (.builtin "min") (Fl.rMinL K) := by
  subst e
  intro pins s σ H xs us Q I r h
  obtain ⟨a, ns, rfl, hs, m, hm, q⟩ := h
  exact cr_min hc pins s σ H _ us Q I r ⟨a, ns, rfl, hs, List.length_pos_of_mem hm.1, fun m' h1 h2 => by rw [IsMin.eq ⟨h1, h2⟩ hm]; exact q⟩
theorem clMax (e : X.K = K) (hc : X.calm = true) : CallR X (.builtin "max") (Fl.rMaxL K) := by
  subst e
  intro pins s σ H xs us Q I r h
  obtain ⟨a, ns, rfl, hs, m, hm, q⟩ := h
  exact cr_max hc pins s σ H _ us Q I r ⟨a, ns, rfl, hs, List.length_pos_of_mem hm.1, fun m' h1 h2 => by rw [IsMax.eq ⟨h1, h2⟩ hm]; exact q⟩
theorem clSum (e : X.K = K) (hc : X.calm = true) : CallR X (.builtin "sum") (rSum K) := by subst e; exact cr_sum hc
theorem g_minL {a : Addr} {ns : List Int} {m : Int} {H : Hp} {Q : VK} (h : SqL K H a (ns.map V.int)) (hm : IsMin m ns) (q : Q (.int m) H) : Fl.rMinL K [.ref a] H Q := ⟨a, ns, rfl, h, m, hm, q⟩
theorem g_maxL {a : Addr} {ns : List Int} {m : Int} {H : Hp} {Q : VK} (h : SqL K H a (ns.map V.int)) (hm : IsMax m ns) (q : Q (.int m) H) : Fl.rMaxL K [.ref a] H Q := ⟨a, ns, rfl, h, m, hm, q⟩
theorem g_sum {a : Addr} {ns : List Int} {H : Hp} {Q : VK} (h : SqL K H a (ns.map V.int)) (q : Q (.int ns.sum) H) : rSum K [.ref a] H Q := ⟨a, ns, rfl, h, q⟩
end

/-! promises -/
def xsOf (o : List (List Pt)) : List Int := o.flatten.map fun p => p.1
def ysOf (o : List (List Pt)) : List Int := o.flatten.map fun p => p.2.1
def fBox (ds : List PyData) (d : PyData) : Prop := ∃ o : List (List Pt), ds = [ouD o] ∧ o.flatten.length < 900 ∧
  ((o.flatten = [] ∧ d = .none) ∨ ∃ x1 y1 x2 y2 : Int, IsMin x1 (xsOf o) ∧ IsMin y1 (ysOf o) ∧ IsMax x2 (xsOf o) ∧ IsMax y2 (ysOf o) ∧ d = .tuple [.int x1, .int y1, .int x2, .int y2])
def mv (x y : Int) (p : Pt) : Pt := (p.1 + x, p.2.1 + y, p.2.2)
def fMv (ds : List PyData) (d : PyData) : Prop := ∃ (o : List (List Pt)) (x y : Int), ds = [ouD o, .int x, .int y] ∧ o.length ≤ 100 ∧ (∀ c, c ∈ o → c.length ≤ 900) ∧ d = ouD (o.map fun c => c.map (mv x y))
/-- flat data -/
def FlD : PyData → Prop
  | .int _ | .bool _ | .none => True
  | _ => False
def TfD (d : PyData) : Prop := ∃ es, d = .tuple es ∧ es.length ≤ 10 ∧ ∀ e, e ∈ es → FlD e
/-- same(x, y), x and y the same flat data -/
def spSm1 : Sp := fun vs H Q _ => ∃ (S T : List Addr) (d : PyData) (x y : V), vs = [x, y] ∧ FlD d ∧ Dq S H x d ∧ Dq T H y d ∧ Q (.bl true) H
def spSm2 : Sp := fun vs H Q _ => ∃ (S T : List Addr) (d : PyData) (x y : V), vs = [x, y] ∧ TfD d ∧ Dq S H x d ∧ Dq T H y d ∧ Q (.bl true) H
def spSml : Sp := fun vs H Q _ => ∃ (S T : List Addr) (ds : List PyData) (x y : V), vs = [x, y] ∧ ds.length ≤ 900 ∧ (∀ d, d ∈ ds → TfD d) ∧ Dq S H x (.list ds) ∧ Dq T H y (.list ds) ∧ Q (.bl true) H
def spSmr : Sp := fun vs H Q _ => ∃ (S T : List Addr) (dss : List (List PyData)) (x y : V), vs = [x, y] ∧ Al S H ∧ dss.length ≤ 900 ∧ (∀ ds, ds ∈ dss → ds.length ≤ 900 ∧ ∀ d, d ∈ ds → TfD d) ∧ Dq S H x (.list (dss.map PyData.list)) ∧ Dq T H y (.list (dss.map PyData.list)) ∧ ∀ H', Same H H' → Q (.bl true) H'
theorem tf_pt (p : Pt) : TfD (ptD p) := ⟨_, rfl, by simp, fun e m => by
  simp only [List.mem_cons, List.not_mem_nil, or_false] at m
  rcases m with rfl | rfl | rfl <;> trivial⟩
theorem tf_pr (p : Pr) : TfD (prD p) := ⟨_, rfl, by simp, fun e m => by
  simp only [List.mem_cons, List.not_mem_nil, or_false] at m
  rcases m with rfl | rfl <;> trivial⟩
theorem trues_of {S : List Addr} {H : Hp} : ∀ (l : List Nat) (zs : List V), DqA S H zs (l.filterMap fun _ => some (PyData.bool true)) → zs.all flatV = true ∧ inV (.bl false) zs = false
  | [], zs, h => by
    rw [h.nilE]
    exact ⟨rfl, rfl⟩
  | _ :: l, zs, h => by
    obtain ⟨v, ws, rfl, hv, hw⟩ := h.consE
    obtain ⟨h1, h2⟩ := trues_of l ws hw
    rw [hv.blE]
    exact ⟨by rw [List.all_cons, h1]; rfl, by
      show (eqV (.bl true) (.bl false) || inV (.bl false) ws) = false
      rw [h2]
      rfl⟩
end Fl

set_option Elab.async false
set_option linter.all false
set_option maxRecDepth 100000
set_option maxHeartbeats 4000000
/-! lines: where they lie, where they begin, how they move -/
namespace Fl
open PySem PySem.Spec PyProof.Rows L2
theorem e1_in {P : Pt → Prop} {R : Pr → Prop} (h1 : ∀ p, P p → R (pr p)) (h2 : ∀ a p b n, n < 7 → P a → P p → P b → R (cp a p b n)) {a p b : Pt} (ha : P a) (hp : P p) (hb : P b) {x : Pr} (m : x ∈ e1 a p b) : R x := by
  unfold e1 at m
  split at m
  · rw [show x = pr p by simpa using m]
    exact h1 p hp
  · unfold cv7 at m
    obtain ⟨n, hn, rfl⟩ := List.mem_map.mp m
    exact h2 a p b n (List.mem_range.mp hn) ha hp hb
theorem ep_in {P : Pt → Prop} {R : Pr → Prop} (h1 : ∀ p, P p → R (pr p)) (h2 : ∀ a p b n, n < 7 → P a → P p → P b → R (cp a p b n)) : ∀ (l : List Pt) (pv nx : Pt), P pv → P nx → (∀ p, p ∈ l → P p) → ∀ x, x ∈ ep pv l nx → R x
  | [], _, _, _, _, _, _, m => nomatch m
  | [p], pv, nx, hv, hn, h, x, m => e1_in h1 h2 hv (h p (by simp)) hn m
  | p :: q :: l, pv, nx, hv, hn, h, x, m => by
    rcases List.mem_append.mp (show x ∈ e1 pv p q ++ ep p (q :: l) nx from m) with m | m
    · exact e1_in h1 h2 hv (h p (by simp)) (h q (by simp)) m
    · exact ep_in h1 h2 (q :: l) p nx (h p (by simp)) hn (fun z mz => h z (List.mem_cons_of_mem _ mz)) x m
theorem lnOf_in {P : Pt → Prop} {R : Pr → Prop} (hP : InB P) (h1 : ∀ p, P p → R (pr p)) (h2 : ∀ a p b n, n < 7 → P a → P p → P b → R (cp a p b n)) {c : List Pt} (h : ∀ p, p ∈ c → P p) : ∀ x, x ∈ lnOf c → R x := by
  intro x m
  rw [lnOf_er] at m
  have hr := ro_in hP h
  cases hro : ro c with
  | nil => rw [hro] at m; cases m
  | cons r l =>
    rw [hro] at m hr
    exact ep_in h1 h2 (r :: l) _ r (hr _ (List.getLast_mem _)) (hr r (by simp)) hr x m
theorem cv_box {lo hi n a c b : Int} (h0 : 1 ≤ n) (h1 : n ≤ 7) (ha : lo ≤ a ∧ a ≤ hi) (hc : lo ≤ c ∧ c ≤ hi) (hb : lo ≤ b ∧ b ≤ hi) : lo ≤ cv n a c b ∧ cv n a c b ≤ hi := by
  unfold cv
  rcases (by omega : n = 1 ∨ n = 2 ∨ n = 3 ∨ n = 4 ∨ n = 5 ∨ n = 6 ∨ n = 7) with rfl | rfl | rfl | rfl | rfl | rfl | rfl <;> omega
theorem ln_box {x1 y1 x2 y2 : Int} {c : List Pt} (h : ∀ p, p ∈ c → (x1 ≤ p.1 ∧ p.1 ≤ x2) ∧ y1 ≤ p.2.1 ∧ p.2.1 ≤ y2) : ∀ z, z ∈ lnOf c → (x1 ≤ z.1 ∧ z.1 ≤ x2) ∧ y1 ≤ z.2 ∧ z.2 ≤ y2 := by
  refine lnOf_in (P := fun p => (x1 ≤ p.1 ∧ p.1 ≤ x2) ∧ y1 ≤ p.2.1 ∧ p.2.1 ≤ y2) (R := fun z => (x1 ≤ z.1 ∧ z.1 ≤ x2) ∧ y1 ≤ z.2 ∧ z.2 ≤ y2) ?_ (fun p hp => hp) ?_ h
  · intro p q hp hq
    refine ⟨⟨?_, ?_⟩, ?_, ?_⟩
    · show _ ≤ (p.1 + q.1) / 2; omega
    · show (p.1 + q.1) / 2 ≤ _; omega
    · show _ ≤ (p.2.1 + q.2.1) / 2; omega
    · show (p.2.1 + q.2.1) / 2 ≤ _; omega
  · intro a p b n hn ha hp hb
    exact ⟨cv_box (by omega) (by omega) ha.1 hp.1 hb.1, cv_box (by omega) (by omega) ha.2 hp.2 hb.2⟩

/-! the points that are on -/
def fon (c : List Pt) : List Pt := c.filter fun p => p.2.2
theorem range_map (c : List Pt) : (List.range c.length).map (fun i => c.getD i p0) = c := by
  apply List.ext_getElem
  · simp
  · intro i h1 h2
    rw [List.getElem_map, List.getElem_range, List.getD_eq_getElem?_getD, List.getElem?_eq_getElem h2]
    rfl
theorem fon_ps (c : List Pt) : fon c = (ps c).map fun i => c.getD i p0 := by
  have h : fon c = fon ((List.range c.length).map fun i => c.getD i p0) := by rw [range_map]
  rw [h]
  unfold fon ps
  rw [List.filter_map]
  rfl
theorem lnOf_head {c : List Pt} {f : Pt} {t : List Pt} (h : fon c = f :: t) : ∃ l, lnOf c = pr f :: l := by
  rw [fon_ps] at h
  cases hps : ps c with
  | nil => rw [hps] at h; cases h
  | cons k u =>
    rw [hps] at h
    have hk : k ∈ ps c := by rw [hps]; simp
    have hkl : k < c.length := ps_lt hk
    have hx : c[k]? = some c[k] := List.getElem?_eq_getElem hkl
    have hf : c[k] = f := by
      rw [List.map_cons] at h
      rw [← (List.cons.inj h).1, getD_of hx]
    have hon := ps_on hk
    rw [getD_of hx] at hon
    obtain ⟨v, hv⟩ := beg_head hx
    have hro : ro c = wm (beg c k) := by unfold ro; rw [hps]
    obtain ⟨z, hz⟩ := wp_head c[k] v c[k]
    rw [hv] at hro
    have hro : ro c = c[k] :: z := hro.trans hz
    rw [lnOf_er, hro, ← hf]
    show ∃ l, ep _ (c[k] :: z) c[k] = _
    cases z with
    | nil =>
      refine ⟨[], ?_⟩
      show e1 _ _ _ = _
      unfold e1
      rw [if_pos hon]
    | cons q z =>
      refine ⟨ep c[k] (q :: z) c[k], ?_⟩
      show e1 _ _ _ ++ _ = _
      unfold e1
      rw [if_pos hon]
      rfl
theorem wp_on : ∀ (l : List Pt) (nx : Pt), (∀ p, p ∈ l → p.2.2 = true) → wp l nx = l
  | [], _, _ => rfl
  | [p], nx, h => by
    show w1 p nx = _
    unfold w1
    rw [if_pos (h p (by simp))]
  | p :: q :: l, nx, h => by
    show w1 p q ++ wp (q :: l) nx = _
    rw [wp_on (q :: l) nx (fun x m => h x (List.mem_cons_of_mem _ m))]
    unfold w1
    rw [if_pos (h p (by simp))]
    rfl
theorem ep_on : ∀ (l : List Pt) (pv nx : Pt), (∀ p, p ∈ l → p.2.2 = true) → ep pv l nx = l.map pr
  | [], _, _, _ => rfl
  | [p], pv, nx, h => by
    show e1 pv p nx = _
    unfold e1
    rw [if_pos (h p (by simp))]
    rfl
  | p :: q :: l, pv, nx, h => by
    show e1 pv p q ++ ep p (q :: l) nx = _
    rw [ep_on (q :: l) p nx (fun x m => h x (List.mem_cons_of_mem _ m))]
    unfold e1
    rw [if_pos (h p (by simp))]
    rfl
theorem lnOf_on {c : List Pt} (h : ∀ p, p ∈ c → p.2.2 = true) : lnOf c = c.map pr := by
  have hr : ro c = c := by
    cases c with
    | nil => rfl
    | cons p l =>
      have h0 : ps (p :: l) = List.range (p :: l).length := by
        unfold ps
        rw [List.filter_eq_self]
        intro i hi
        have hi := List.mem_range.mp hi
        have hx : (p :: l)[i]? = some (p :: l)[i] := List.getElem?_eq_getElem hi
        show ((p :: l).getD i p0).2.2 = true
        rw [getD_of hx]
        exact h _ (List.mem_of_getElem? hx)
      unfold ro
      rw [h0, show (p :: l).length = l.length + 1 from rfl, List.range_succ_eq_map]
      show wm (beg (p :: l) 0) = p :: l
      have hb : beg (p :: l) 0 = p :: l := by unfold beg; simp
      rw [hb]
      exact wp_on (p :: l) p h
  rw [lnOf_er, hr]
  cases c with
  | nil => rfl
  | cons p l => exact ep_on (p :: l) _ p h
theorem fon_all {c : List Pt} (h : (fon c).length = c.length) : (∀ p, p ∈ c → p.2.2 = true) ∧ fon c = c := by
  have h2 : fon c = c := List.Sublist.eq_of_length (List.filter_sublist) h
  refine ⟨fun p m => ?_, h2⟩
  rw [← h2] at m
  exact (List.mem_filter.mp m).2

/-! moving -/
def mp (x y : Int) (p : Pr) : Pr := (p.1 + x, p.2 + y)
section
variable (x y : Int)
theorem w1_mv (p q : Pt) : w1 (mv x y p) (mv x y q) = (w1 p q).map (mv x y) := by
  have h : mid (mv x y p) (mv x y q) = mv x y (mid p q) := by
    refine Prod.ext ?_ (Prod.ext ?_ rfl)
    · show (p.1 + x + (q.1 + x)) / 2 = (p.1 + q.1) / 2 + x
      omega
    · show (p.2.1 + y + (q.2.1 + y)) / 2 = (p.2.1 + q.2.1) / 2 + y
      omega
  have e1 : (mv x y p).2.2 = p.2.2 := rfl
  have e2 : (mv x y q).2.2 = q.2.2 := rfl
  unfold w1
  rw [e1, e2, h]
  split
  · rfl
  · split <;> rfl
theorem wp_mv : ∀ (l : List Pt) (nx : Pt), wp (l.map (mv x y)) (mv x y nx) = (wp l nx).map (mv x y)
  | [], _ => rfl
  | [p], nx => w1_mv x y p nx
  | p :: q :: l, nx => by
    have ih := wp_mv (q :: l) nx
    show w1 (mv x y p) (mv x y q) ++ wp ((q :: l).map (mv x y)) (mv x y nx) = (w1 p q ++ wp (q :: l) nx).map (mv x y)
    rw [ih, w1_mv, List.map_append]
theorem wm_mv (c : List Pt) : wm (c.map (mv x y)) = (wm c).map (mv x y) := by
  cases c with
  | nil => rfl
  | cons p l => exact wp_mv x y (p :: l) p
theorem ps_mv (c : List Pt) : ps (c.map (mv x y)) = ps c := by
  unfold ps
  rw [List.length_map]
  apply List.filter_congr
  intro i hi
  have hi := List.mem_range.mp hi
  have hx : c[i]? = some c[i] := List.getElem?_eq_getElem hi
  have hy : (c.map (mv x y))[i]? = some (mv x y c[i]) := by rw [List.getElem?_map, hx]; rfl
  rw [getD_of hx, getD_of hy]
  rfl
theorem beg_map {α β : Type} (f : α → β) (c : List α) (k : Nat) : beg (c.map f) k = (beg c k).map f := by
  unfold beg
  rw [List.map_append, List.map_drop, List.map_take]
theorem ro_mv (c : List Pt) : ro (c.map (mv x y)) = (ro c).map (mv x y) := by
  unfold ro
  rw [ps_mv, wm_mv]
  cases ps c with
  | nil =>
    show ((wm c).map (mv x y)).drop (((wm c).map (mv x y)).length - 1) ++ ((wm c).map (mv x y)).dropLast = ((wm c).drop ((wm c).length - 1) ++ (wm c).dropLast).map (mv x y)
    rw [List.map_append, List.map_drop, List.length_map, List.map_dropLast]
  | cons k l =>
    show wm (beg (c.map (mv x y)) k) = (wm (beg c k)).map (mv x y)
    rw [beg_map, wm_mv]
theorem cv_mv {n : Int} (h0 : 1 ≤ n) (h1 : n ≤ 7) (a c b z : Int) : cv n (a + z) (c + z) (b + z) = cv n a c b + z := by
  unfold cv
  rcases (by omega : n = 1 ∨ n = 2 ∨ n = 3 ∨ n = 4 ∨ n = 5 ∨ n = 6 ∨ n = 7) with rfl | rfl | rfl | rfl | rfl | rfl | rfl <;> omega
theorem e1_mv (a p b : Pt) : e1 (mv x y a) (mv x y p) (mv x y b) = (e1 a p b).map (mp x y) := by
  have e1' : (mv x y p).2.2 = p.2.2 := rfl
  unfold e1
  rw [e1']
  split
  · rfl
  · unfold cv7
    rw [List.map_map]
    apply List.map_congr_left
    intro n hn
    have hn := List.mem_range.mp hn
    exact Prod.ext (cv_mv (by omega) (by omega) _ _ _ _) (cv_mv (by omega) (by omega) _ _ _ _)
theorem ep_mv : ∀ (l : List Pt) (pv nx : Pt), ep (mv x y pv) (l.map (mv x y)) (mv x y nx) = (ep pv l nx).map (mp x y)
  | [], _, _ => rfl
  | [p], pv, nx => e1_mv x y pv p nx
  | p :: q :: l, pv, nx => by
    have ih := ep_mv (q :: l) p nx
    show e1 (mv x y pv) (mv x y p) (mv x y q) ++ ep (mv x y p) ((q :: l).map (mv x y)) (mv x y nx) = (e1 pv p q ++ ep p (q :: l) nx).map (mp x y)
    rw [ih, e1_mv, List.map_append]
theorem lnOf_mv (c : List Pt) : lnOf (c.map (mv x y)) = (lnOf c).map (mp x y) := by
  rw [lnOf_er, lnOf_er, ro_mv]
  cases ro c with
  | nil => rfl
  | cons r l =>
    have hg : ((r :: l).map (mv x y)).getLast (by simp) = mv x y ((r :: l).getLast (by simp)) := List.getLast_map (by simp)
    show ep (((r :: l).map (mv x y)).getLast (by simp)) ((r :: l).map (mv x y)) (mv x y r) = (ep ((r :: l).getLast (by simp)) (r :: l) r).map (mp x y)
    rw [hg, ep_mv]
end
end Fl
namespace Fl
open PySem PySem.Spec PyProof.Rows L2
theorem fon_fm (c : List Pt) : (List.range c.length).filterMap (fun i => if (c.getD i p0).2.2 = true then some (prD (pr (c.getD i p0))) else none) = ((fon c).map pr).map prD := by
  rw [fm_filter (fun i => (c.getD i p0).2.2) (fun i => prD (pr (c.getD i p0))), fon_ps, List.map_map, List.map_map]
  rfl
theorem xs_one (c : List Pt) : xsOf [c] = c.map fun p => p.1 := by unfold xsOf; simp
theorem ys_one (c : List Pt) : ysOf [c] = c.map fun p => p.2.1 := by unfold ysOf; simp
/-- a box of one contour -/
theorem box_one {c : List Pt} (h : c ≠ []) : ∃ x1 y1 x2 y2 : Int, (IsMin x1 (xsOf [c]) ∧ IsMin y1 (ysOf [c]) ∧ IsMax x2 (xsOf [c]) ∧ IsMax y2 (ysOf [c])) ∧ ∀ z, z ∈ lnOf c → (x1 ≤ z.1 ∧ z.1 ≤ x2) ∧ y1 ≤ z.2 ∧ z.2 ≤ y2 := by
  obtain ⟨x1, m1⟩ := ex_min (xsOf [c]) (by rw [xs_one]; simpa using h)
  obtain ⟨y1, m2⟩ := ex_min (ysOf [c]) (by rw [ys_one]; simpa using h)
  obtain ⟨x2, m3⟩ := ex_max (xsOf [c]) (by rw [xs_one]; simpa using h)
  obtain ⟨y2, m4⟩ := ex_max (ysOf [c]) (by rw [ys_one]; simpa using h)
  refine ⟨x1, y1, x2, y2, ⟨m1, m2, m3, m4⟩, ln_box fun p hp => ?_⟩
  have a1 : p.1 ∈ xsOf [c] := by rw [xs_one]; exact List.mem_map.mpr ⟨p, hp, rfl⟩
  have a2 : p.2.1 ∈ ysOf [c] := by rw [ys_one]; exact List.mem_map.mpr ⟨p, hp, rfl⟩
  exact ⟨⟨m1.2 _ a1, m3.2 _ a1⟩, m2.2 _ a2, m4.2 _ a2⟩
theorem sh_pr (p : Pr) : SeqAt.shaped (prD p) = true := by
  have h := pr_lay p
  unfold SeqAt.shaped
  rw [h.1, Bool.true_and, decide_eq_true_eq]
  omega
theorem sh_nil : SeqAt.shaped (PyData.list []) = true := sh_list (n := 0) (fun _ m => nomatch m) (by decide)
theorem eqv_cons_nil (x : PyData) (l : List PyData) : PyData.eqv (.list (x :: l)) (.list []) = false := by simp [PyData.eqv, PyData.eqvAll]
theorem prE {S : List Addr} {H : Hp} {v : V} {p : Pr} (h : Dq S H v (prD p)) : ∃ a, v = .ref a ∧ a ∉ S ∧ H a = some (.tup [.int p.1, .int p.2]) := by
  obtain ⟨a, xs, rfl, n, q, r⟩ := h.tupE
  obtain ⟨x1, w1, rfl, h1, r⟩ := r.consE
  obtain ⟨x2, w2, rfl, h2, r⟩ := r.consE
  cases r.nilE
  cases h1.intE
  cases h2.intE
  exact ⟨a, rfl, n, q⟩
end Fl
namespace Fl
open PySem PySem.Spec PyProof.Rows L2
theorem g_andF {k : Bool} {t2 : TT} {σ : L2.St} {H : Hp} {Q : Bool → Hp → Prop} (h : Q false H) (h2 : k = true → Q false H → t2 σ H Q) : if k = true then t2 σ H Q else Q false H := by
  cases k with
  | true => rw [if_pos rfl]; exact h2 rfl h
  | false => rw [if_neg Bool.false_ne_true]; exact h
end Fl

set_option Elab.async false
set_option linter.all false
set_option maxRecDepth 100000
set_option maxHeartbeats 4000000
/-! repr of data; the law's def, called from outside (no guard stands below it) -/
namespace Fl
open PySem PySem.Spec PyProof.Rows L2

/-! ### repr -/
structure Shw (d : PyData) : Prop where
  sh : d.showable = true
  nd : d.hasDict = false
  dp : d.depth ≤ 40
  lv : d.leavesShort 13 = true
  wt : d.weight ≤ 2 ^ 20
def rRp (K : PySem.W.Frag) : List V → Hp → VK → Prop := fun xs H Q => ∃ (a : Addr) (d : PyData), xs = [.ref a] ∧ Dp K H (.ref a) d ∧ Shw d ∧ Q (.str d.shown) H
theorem clRepr {X : Cx} {K : PySem.W.Frag} (e : X.K = K) (hg : X.A.guards = some []) (hu : X.A.units + 64 < cLine) : CallR X (.builtin "repr") (rRp K) := by
  subst e
  intro pins s σ H xs us Q I r h
  obtain ⟨a, d, rfl, hd, hw, q⟩ := h
  obtain ⟨u, rfl, hu1⟩ := vals1 r
  cases hu1
  obtain ⟨as, rd⟩ := Dp.reads I d (.ref a) (.ref a) hd rfl
  have hdp := hw.dp
  refine repr_of_reads' rd hw.sh (fun z => ?_) hg (by omega) (fun b o z => z) (fun h' u tk hk => ⟨.str _, H, I.kept hk, ⟨u, rfl⟩, q⟩) (PyData.shown_fits (B := 13) (by decide) (by decide) hw.lv hw.wt)
  rw [hw.nd] at z
  cases z
theorem g_rp {K : PySem.W.Frag} {H : Hp} {Q : VK} {S : List Addr} {a : Addr} {d : PyData} (h : Dq S H (.ref a) d) (w : Shw d) (q : Q (.str d.shown) H) : rRp K [.ref a] H Q := ⟨a, d, rfl, h.dp w.nd, w, q⟩

/-! ### the law's def -/
def AtLaw (P : Program) (w : World) (K : PySem.W.Frag) (mg : Str → Option Value) (f : Addr) (fd : FuncData) (x : Str) (sp : Sp) : Prop :=
  ∀ base : Heap, K.In base → base.Ns mainGlobals mg → ∀ (s : Shared) (H : Hp) (a : Addr) (Q : VK), Env0 P w K mg base callerA [] s H → BindsTo s fd ⟨[.ref a], []⟩ [(x, .ref a)] → sp [.ref a] H Q E0 →
    codeAny (model P w) callerA (.call (.ref f) ⟨[.ref a], []⟩) (CR CX0 [] P w H s Q E0) s
theorem atLaw_of {P : Program} {w : World} {K : PySem.W.Frag} {mg : Str → Option Value} {k : Nat} {x y : Str} {st : Stmt} {N : List Str} {sp : Sp} {f : Addr} {fd : FuncData} (F : Fun K x x st f fd) (S : FnScope N [y] (defScope st)) (hr : Room (k + 1) callerA)
    (body : ∀ (base : Heap) (cdv : Value) (s : Shared) (H : Hp) (a : Addr) (Q : VK), Room k (callerA.deeper (envOfC x (defScope st) s.heap.objs.size f cdv)) → sp [.ref a] H Q E0 →
      ∃ t, PSs (bx P w K mg base N x st f cdv callerA [] s H E0) (defBody st) t ∧ t { nx := fun _ H' => Q .non H', rt := Q } (start N [.ref a]) H) : AtLaw P w K mg f fd y sp := by
  obtain ⟨_, _, kV, doc, pm, an, cdv, ct, _, rfl, atf, code⟩ := F.ex
  intro base kb nb s H a Q e0 bind hsp
  have here : ∀ {b : Addr} {o : Obj}, base.get? b = some o → s.heap.get? b = some o := fun e => (e0.bs _ _ e).1
  have Ks : K.In s.heap := e0.mod.kin.keeps fun _ _ => here
  have kinds : ∀ z ∈ [(y, Value.ref a)], (defScope st).names.lookup z.1 = some .local ∨ ((defScope st).names.lookup z.1 = some .cell ∧ ((cellsFrom (s.heap.objs.size + 1) (defScope st).names []).lookup z.1).isSome = true) := by
    intro z hz
    obtain rfl := List.mem_singleton.mp hz
    cases S.par y (List.mem_singleton.mpr rfl) with
    | inl q => exact .inl q
    | inr q => exact .inr ⟨q, PySem.W.cellsFrom_some _ _ _ (.inl q)⟩
  have vals : Vals [V.ref a] [Value.ref a] := .cons rfl .nil
  obtain ⟨t, ht, hq⟩ := body base cdv s H a Q (hr.deeper _) hsp
  exact codeAny_call_function hr.depth (Ks _ _ atf) rfl S.co S.gen rfl (PySem.W.codeRec_of Ks code) (bind _ _ _ _ (wpAny_newFunctionEnv_cells S.kind kinds (fun env he s1 z => by
    subst he
    refine ⟨(e0.mod.nolimit.keeps fun _ _ => here).keeps z.toInCall.keep, codeAny_func ?_⟩
    have I := inv_start (N := N) (E := E0) (CX := CX0) S hr.hd e0 rfl vals z
    have R := (PSs.nox (X := cxOf CX0 P w K mg base N x (defScope st) f cdv callerA [] s H E0) ht).run [] s1 (start N [.ref a]) H _ I hq
    exact wpAny_mono R (fun fl s' hs => (match fl, hs with
      | .ret u, ⟨v, σ', H', J, rv, q⟩ => ⟨v, H', J.os, J.bare, J.base, J.hok, rv, q⟩
      | .next, ⟨σ', H', J, q⟩ => ⟨.non, H', J.os, J.bare, J.base, J.hok, rfl, q⟩
      | .brk, ⟨_, _, _, q⟩ => q.elim
      | .cont, ⟨_, _, _, q⟩ => q.elim)) (fun _ _ z => z))))
/-- the goal of the end, from the law's def called from outside: nothing is tracked but the script -/
theorem atLaw_end {l : PySem.W.OpenLaw} {n : Nat} {q : Program} {loose : List Str} {XP : (Str → Option Value) → Heap → Prop} {YP : World → Heap → Prop} {d : DefRec} {K : Params → PySem.W.Frag} {sp : PySem.W.Frag → Sp} {x : Str}
    (hn : l.most = some n) (hn2 : n ≤ sizeLine) (hdf : d.params.defaults = []) (hY : ∀ (w : World) (h : Heap), YP w h → (K w.params).In h)
    (F : ∀ (w : World) (mg : Str → Option Value) (fa : Addr) (h : Heap), (K w.params).In h → h.Ns mainGlobals mg → mg d.name = some (.ref fa) →
      ∃ fd : FuncData, (∀ (s : Shared) (u : Value), BindsTo s fd ⟨[u], []⟩ [(x, u)]) ∧ AtLaw l.prog w (K w.params) mg fa fd x (sp (K w.params)))
    (hsp : ∀ (K : PySem.W.Frag) (H : Hp) (a : Addr) (ns : List Int), ns.length ≤ n → SqL K H a (ns.map V.int) → sp K [.ref a] H (fun v _ => v = .bl true) E0) :
    PySem.W.WalkO q loose XP YP l.row.toRowW d [] (fun f vs => PySem.call f vs) := by
  refine Att.attach_call hn hdf fun w s₀ s₁ mg mb fa o pm cd doc a vs ns G Y ho hd hcd hmg hobj hints hlen hg => ?_
  have Kh := hY w _ Y
  obtain ⟨fd, bind, run⟩ := F w mg fa _ Kh G.T.g hmg
  have vals := vals_ints hints
  -- the script: one of the module's own lists, or the one object that is tracked
  obtain ⟨H, only, sq, hok, none_of, own⟩ : ∃ H : Hp, Only H ∧ SqL (K w.params) H a (ns.map V.int) ∧ HOk l.prog w H s₁.heap ∧ (∀ b, b ≠ a → H b = none) ∧ (H a ≠ none → (K w.params).lookup a = none) := by
    have fits : (ns.map V.int).length ≤ sizeLine := by rw [List.length_map]; exact Nat.le_trans hlen hn2
    cases hk : (K w.params).lookup a with
    | some u =>
      cases hobj.symm.trans (Kh a u hk)
      refine ⟨fun _ => none, fun _ => .inl rfl, .inr ⟨_, vs.toArray, _, hk, rfl, rfl, rfl, ?_, by simpa using vals⟩, fun b u z => (nomatch (show (none : Option HO) = some u from z)), fun _ _ => rfl, fun z => (z rfl).elim⟩
      rw [List.size_toArray, hints.length]
      exact Nat.le_trans hlen hn2
    | none =>
      have at_a : ∀ {b : Addr}, b = a → (if b = a then some (HO.frz { cls := .type "list", data := .seq vs.toArray } (.lst (ns.map V.int))) else none) = some (HO.frz { cls := .type "list", data := .seq vs.toArray } (.lst (ns.map V.int))) := fun e => if_pos e
      refine ⟨fun b => if b = a then some (HO.frz { cls := .type "list", data := .seq vs.toArray } (.lst (ns.map V.int))) else none, fun b => ?_, .inl (.inr ⟨_, at_a rfl⟩), fun b u z => ?_, fun b e => if_neg e, fun _ => rfl⟩
      · rcases Decidable.em (b = a) with e | e
        · exact .inr ⟨_, _, at_a e⟩
        · exact .inl (if_neg e)
      · rcases Decidable.em (b = a) with e | e
        · cases (at_a e).symm.trans z
          exact ⟨by rw [e]; exact hobj, fits, vs, _, vals, by rw [e]; exact hobj⟩
        · cases (if_neg e).symm.trans z
  have keep : ∀ {b : Addr} {u : Obj}, s₁.heap.get? b = some u → H b = none → (hidT s₁.heap H).get? b = some u := fun e z => hidT_get e z
  have plain : ∀ {b : Addr} {u : Obj} {es : Array DictEntry} {ep : Nat}, s₁.heap.get? b = some u → u.data = .dict es ep → H b = none := by
    intro b u es ep e z
    rcases Decidable.em (b = a) with e2 | e2
    · rw [e2] at e
      cases hobj.symm.trans e
      exact (nomatch (show Data.seq vs.toArray _ = Data.dict es ep from z))
    · exact none_of b e2
  have space : ∀ {b : Addr} {m : Str → Option Value}, s₁.heap.Ns b m → (hidT s₁.heap H).Ns b m := fun ⟨u, es, ep, e, z, r⟩ => ⟨u, es, ep, keep e (plain e z), z, r⟩
  have Kb : (K w.params).In (hidT s₁.heap H) := fun b u e => keep (Kh b u e) (by
    rcases Decidable.em (b = a) with e2 | e2
    · cases z : H b with
      | none => rfl
      | some v =>
        rw [e2] at e z
        rw [own (by rw [z]; exact Option.some_ne_none _)] at e
        cases e
    · exact none_of b e2)
  obtain ⟨mc, lim1, lim2⟩ := G.T.nolimit
  have e0 : Env0 l.prog w (K w.params) mg (hidT s₁.heap H) callerA [] s₁ H := ⟨rfl, ⟨Kb, space G.T.g, ⟨mb, space G.T.b, G.T.builtins⟩, ⟨mc, space lim1, lim2⟩⟩, fun b u e => of_hidT e, Nat.le_of_eq (hidT_size _ _), trivial, fun b hb => (nomatch (show b ∈ ([] : List Addr) from hb)), hok, .of_eq hg⟩
  refine codeAny_mono (run _ Kb (space G.T.g) s₁ H a _ e0 (bind s₁ (.ref a)) (hsp _ H a ns hlen sq)) fun r s' h => ?_
  match r, h with
  | .ok (.ret u), ⟨v, H', os, bare, un, hok', rv, q⟩ =>
    obtain rfl : v = .bl true := q
    obtain rfl : u = Value.bool true := rv
    refine ⟨rfl, OldK.of_keep fun b u e => ?_, os, bare⟩
    cases z : H b with
    | none => exact un.keep b u e z (fun m => (nomatch (show b ∈ ([] : List Addr) from m))) (List.not_mem_nil)
    | some v =>
      rcases only b with y | ⟨u2, xs, y⟩
      · cases y.symm.trans z
      · have later := (hok' b _ (un.frzs b u2 _ y)).1
        rw [e.symm.trans (hok b _ y).1]
        exact later
end Fl

set_option Elab.async false
set_option linter.all false
set_option maxRecDepth 100000
set_option maxHeartbeats 4000000
/-! slices of lists backwards, by ones -/
namespace Fl
open PySem PySem.Spec PyProof.Rows L2

/-- what xs[lo:hi:-1] takes -/
def pickR {α : Type} (xs : List α) (lo hi : Option Int) : List α := (let (a, b, c) := sliceBounds lo hi (some (-1)) xs.length; sliceRange a b c).filterMap (xs[·]?)
theorem pick_vals {xs : List V} {its : List Value} (r : Vals xs its) : ∀ ks : List Nat, Vals (ks.filterMap (xs[·]?)) (ks.filterMap (its[·]?))
  | [] => .nil
  | k :: ks => by
    have ih := pick_vals r ks
    have hl := r.length
    rw [List.filterMap_cons, List.filterMap_cons]
    cases hx : xs[k]? with
    | none =>
      have : its[k]? = none := by
        rw [List.getElem?_eq_none_iff] at hx ⊢
        omega
      rw [this]
      exact ih
    | some x =>
      obtain ⟨u, hu, rv⟩ := r.get hx
      rw [hu]
      exact .cons rv ih
def rSlR (K : PySem.W.Frag) : V → Option Int → Option Int → Hp → VK → Prop := fun x lo hi H Q => ∃ a xs, x = .ref a ∧ SqL K H a xs ∧ (pickR xs lo hi).length ≤ xs.length ∧ ∀ p, H p = none → Q (.ref p) (upd H p (.lst (pickR xs lo hi)))
theorem pe_slR {X : Cx} {K : PySem.W.Frag} {e : Expr} {te : TE} {lo hi : Option Expr} {tl th : TO} {k : Nat} {p1 p2 p3 pos : Pos} (eK : X.K = K) (he : PE X e te) (hl : PO X lo tl) (hh : PO X hi th) :
    PE X (.Subscript e (.Slice lo hi (some (.UnaryOp .USub (.Constant (.int 1) k p1) p2)) p3) pos) (L2.tSl (rSlR K) te tl th) := by
  subst eK
  refine ⟨fun pins s σ H Q I h => ?_⟩
  have one : PO X (some (.UnaryOp .USub (.Constant (.int 1) k p1) p2)) (tPart (tUn (rU fun i => .int (-i)) (tC (.int 1)))) := po_some (pe_un un_neg pe_int)
  refine Subscript_ (thn (he.run pins s σ H _ I h) fun v s1 ⟨x, H1, I1, r1, q1⟩ => ?_)
  refine wpAny_Slice (thn (hl.run pins s1 σ H1 _ I1 q1) fun vl s2 ⟨l, H2, I2, pl, q2⟩ => thn (hh.run pins s2 σ H2 _ I2 q2) fun vu s3 ⟨u, H3, I3, pu, a, xs, ex, hx, hz1, q⟩ =>
    thn (one.run pins s3 σ H3 (fun o H4 => o = some (-1) ∧ H4 = H3) I3 ⟨1, rfl, -1, rfl, rfl, rfl⟩) fun vs s4 ⟨o, H4, I4, ps, eo, e4⟩ => ?_)
  subst eo e4 ex
  cases r1
  have I5 : Inv X pins σ H4 { s4 with heap := s4.heap.push { cls := .type "slice", data := .fields #[vl, vu, vs] } } := I4.kept (t' := s4.toks) fun _ _ z => Heap.get?_push_of_some _ z
  obtain ⟨its, r, ht, hz⟩ := I5.list hx
  have hlen := r.length
  have hsz : its.toArray.size ≤ sizeLine := by rw [List.size_toArray]; omega
  refine tail_any (ops := [.ref a, .ref s4.heap.objs.size]) ht.isList.typeIs (PySem.slot_list_getitem.lookup) (wpAny_getItem_list_slice ht.isList (Heap.IsSliceOf.new _ vl vu vs) pl pu ps (by decide) ?_ hsz) (by with_unfolding_all rfl)
  have hp : slicePick its.toArray l u (some (-1)) = (pickR its l u).toArray := by
    unfold slicePick pickR
    simp only [List.size_toArray]
    congr 1
    congr 1
    funext i
    simp
  rw [hp]
  have hv : Vals (pickR xs l u) (pickR its l u) := by
    unfold pickR
    rw [hlen]
    exact pick_vals r _
  exact ⟨.ref _, _, I5.laid (t' := s4.toks) (o := .lst (pickR xs l u)) (fun _ _ z => Heap.get?_push_of_some _ z) (Nat.le_refl _) ⟨Nat.le_trans hz1 hz, _, 0, hv, Heap.get?_push_size _ rfl⟩, rfl, q _ (I5.hok.fresh (Nat.le_refl _))⟩
theorem fmc {α β : Type} {f g : α → Option β} : ∀ {l : List α}, (∀ x, x ∈ l → f x = g x) → l.filterMap f = l.filterMap g
  | [], _ => rfl
  | x :: l, h => by
    rw [List.filterMap_cons, List.filterMap_cons, h x (by simp), fmc fun y m => h y (List.mem_cons_of_mem _ m)]
theorem fm_takeG {α : Type} (rs : List α) : ∀ n : Nat, (List.range n).filterMap (fun i => rs[i]?) = rs.take n
  | 0 => by simp
  | n + 1 => by
    rw [List.range_succ, List.filterMap_append, fm_takeG rs n, List.take_succ]
    cases h : rs[n]? <;> simp [h]
/-- xs[:0:-1] -/
theorem pickR_0 {α : Type} (xs : List α) : pickR xs none (some 0) = (xs.drop 1).reverse := by
  have e0 : pickR xs none (some 0) = (sliceRange ((xs.length : Int) - 1) 0 (-1)).filterMap (xs[·]?) := by
    unfold pickR
    have : sliceBounds none (some 0) (some (-1)) xs.length = ((xs.length : Int) - 1, 0, -1) ∨ xs.length = 0 := by
      rcases Nat.eq_zero_or_pos xs.length with h | h
      · exact .inr h
      · left
        unfold sliceBounds
        simp
        omega
    rcases this with h | h
    · rw [h]
    · have : xs = [] := List.eq_nil_of_length_eq_zero h
      subst this
      rfl
  rw [e0]
  have e1 : sliceRange ((xs.length : Int) - 1) 0 (-1) = (List.range (xs.length - 1)).map fun k => xs.length - 1 - k := by
    unfold sliceRange
    rw [if_neg (by decide)]
    have : (if (xs.length : Int) - 1 > 0 then ((xs.length : Int) - 1 - 0 - -1 - 1) / - -1 else 0).toNat = xs.length - 1 := by
      split
      · rw [show (- -1 : Int) = 1 from rfl, Int.ediv_one]
        omega
      · omega
    show (List.range (if (xs.length : Int) - 1 > 0 then ((xs.length : Int) - 1 - 0 - -1 - 1) / - -1 else 0).toNat).map _ = _
    rw [this]
    refine List.map_congr_left fun k hk => ?_
    have := List.mem_range.mp hk
    omega
  rw [e1]
  rw [List.filterMap_map]
  have e2 : ((List.range (xs.length - 1)).filterMap ((fun x => xs[x]?) ∘ fun k => xs.length - 1 - k)) = (List.range (xs.length - 1)).filterMap fun k => ((xs.drop 1).reverse)[k]? := by
    refine fmc fun k hk => ?_
    have hk := List.mem_range.mp hk
    show xs[xs.length - 1 - k]? = _
    rw [List.getElem?_reverse (by rw [List.length_drop]; omega), List.length_drop, List.getElem?_drop]
    congr 1
    omega
  rw [e2, fm_takeG, List.take_of_length_le (by simp)]
theorem g_slR0 {K : PySem.W.Frag} {H : Hp} {Q : VK} {a : Addr} {xs : List V} (h : SqL K H a xs) (q : ∀ p, H p = none → Q (.ref p) (upd H p (.lst (xs.drop 1).reverse))) : rSlR K (.ref a) none (some 0) H Q :=
  ⟨a, xs, rfl, h, by rw [pickR_0]; simp, by rw [pickR_0]; exact q⟩
end Fl

set_option Elab.async false
set_option linter.all false
set_option maxRecDepth 100000
set_option maxHeartbeats 4000000
/-! list(reversed(xs)), xs a list -/
namespace Fl
open PySem PySem.Spec PyProof.Rows L2
section
variable {prog : Program} {w : World} {A : Around} {E : Value → Shared → Prop} {s : Shared}
abbrev nilO : Obj := { cls := .type "list", data := .seq #[] }
/-- S.extend(it), S a new list, it a list's iterator from its end -/
theorem ext_rev {it l S : Addr} {items : Array Value} {c0 : Nat} {R : Result → Shared → Prop} (hh : A.handled = none) (hit : s.heap.IsRevIter it l ((items.size : Int) - 1)) (hl : s.heap.IsList l items) (hne : l ≠ it) (hn : items.size ≤ sizeLine)
    (hSf : S ∉ [it, l]) (hS : s.heap.get? S = some { cls := .type "list", data := .seq #[] c0 })
    (hR : ∀ s' acc' c', Moved [S, it] (fun a b => b = a) s s' → s'.heap.get? S = some { cls := .type "list", dict := none, data := .seq acc' c', slots := #[] } → ItemsOf (fun i v => items[items.size - 1 - i]? = some v) acc' items.size → R (.ok (.ret .none)) s') :
    wpAny (model prog w) A.in1 (Builtin.List.listExtendWith (.ref S) (.ref it) .none)
      (fun fin s' => match fin with | .done f => R (.ok f) s' | .again c' => c'.quiet = true ∧ codeAny (model prog w) A c' R s') (fun e s' => R (.error e) s') s := by
  have W := (Walks.listRev (prog := prog) (w := w) (A := A.in1) hh it l hne items).toS
  have T := hit.typeIs (s := s)
  have ne : S ≠ it := fun e => hSf (by rw [e]; exact List.mem_cons_self)
  have same : Builtin.List.listSameRef (.ref S) (.ref it) = false := by simp [Builtin.List.listSameRef, ne]
  unfold Builtin.List.listExtendWith
  refine wpAny_bind (wpAny_typeOf T ?_); rw [if_neg (by rw [same]; decide)]
  refine wpAny_bind (wpAny_pyIter_revIter hit ?_); refine wpAny_bind (wpAny_holding ?_)
  unfold Builtin.List.listLengthHint
  refine wpAny_bind (wpAny_specialOf T RT.nolen_lri ?_); show wpAny _ A.in1 (specialOf (Value.ref it) (Str.ofString "__length_hint__") >>= _) _ _ s
  refine wpAny_bind (wpAny_specialOf T RT.hint_lri ?_); generalize hid : ("list_reverseiterator.__length_hint__" : String) = id0
  wp_delta
  rw [show splitId id0 = some ("list_reverseiterator", "__length_hint__") from by subst hid; decide +kernel]; subst hid
  refine wpAny_bind (wpAny_isInstance (b := true) T (by rw [isSubtype_type]; kernel_rfl) (wpAny_pure ?_)); rw [if_neg (by decide)]
  have e0 : ((items.size : Nat) : Int) - 1 - ((0 : Nat) : Int) = (items.size : Int) - 1 := Int.sub_zero _
  refine wpAny_pure ⟨plainId_quiet F.plain_extend_loop _, codeAny_extend_loopS W hn _ hSf _ items.size 0 _ _ _ rfl (Nat.zero_le _) ⟨Nat.zero_le _, by rw [e0]; exact hit, hl⟩ hS (ItemsOf.nil _) hR⟩
theorem make_rev {it l : Addr} {items : Array Value} {Q : Value → Shared → Prop} (hh : A.handled = none) (hit : s.heap.IsRevIter it l ((items.size : Int) - 1)) (hl : s.heap.IsList l items) (hne : l ≠ it) (hn : items.size ≤ sizeLine)
    (hQ : ∀ s' acc' c', Moved [s.heap.objs.size, it] (fun a b => b = a) { s with heap := s.heap.push nilO } s' → s'.heap.get? s.heap.objs.size = some { cls := .type "list", dict := none, data := .seq acc' c', slots := #[] } →
      ItemsOf (fun i v => items[items.size - 1 - i]? = some v) acc' items.size → Q (.ref s.heap.objs.size) s') : wpAny (model prog w) A (call (.type "list") [.ref it]) Q E s := by
  obtain ⟨oi, hoi, _⟩ := id hit
  obtain ⟨ol, hol, _⟩ := id hl
  have n1 : s.heap.objs.size ≠ it := Nat.ne_of_gt (Heap.lt_size hoi)
  have n2 : s.heap.objs.size ≠ l := Nat.ne_of_gt (Heap.lt_size hol)
  refine callType_codes (Q₁ := fun obj s₁ => obj = .ref s.heap.objs.size ∧ s₁ = { s with heap := s.heap.push nilO }) F.called_list (F.typeCall_list_1 _) F.entry_list_init (code_list_new _ ⟨rfl, rfl⟩) fun obj s₁ ⟨e1, e2⟩ => ?_
  subst e1 e2
  have hS : (s.heap.push nilO).get? s.heap.objs.size = some nilO := Heap.get?_push_size _ rfl
  refine ⟨⟨_, hS, rfl⟩, F.args_list_init_2 _ _, ?_⟩
  show wpAny _ A.in1.in1 (do let old ← Builtin.List.listItems (.ref s.heap.objs.size); Builtin.List.listUpdate (.ref s.heap.objs.size) (fun _ => #[]); letGo old.toList.reverse; Builtin.List.listExtendWith (.ref s.heap.objs.size) (.ref it) .none) _ _ _
  unfold Builtin.List.listItems
  refine wpAny_bind (wpAny_bind (wpAny_seqItems hS rfl (wpAny_pure ?_)))
  all_goals first
    | (refine wpAny_bind (wpAny_updateSeq hS rfl (wpAny_bind (wpAny_letGo ?_)))
       have hS2 := Heap.get?_update_self (Obj.mapSeq (fun _ => (#[] : Array Value))) hS rfl
       have oth : ∀ b o, b ≠ s.heap.objs.size → s.heap.get? b = some o → ((s.heap.push nilO).update s.heap.objs.size (Obj.mapSeq (fun _ => (#[] : Array Value)))).get? b = some o := fun b o hb e => (Heap.get?_update_other _ _ (Ne.symm hb)).trans (Heap.get?_push_of_some _ e)
       refine ext_rev (A := A.in1) hh (hit.at fun o e => oth it o (Ne.symm n1) e) (hl.at fun o e => oth l o (Ne.symm n2) e) hne hn (by simp [n1, n2]) hS2 fun s' acc' c' hm hS' hacc => ?_
       refine ⟨rfl, hQ s' acc' c' (Moved.trans (G := fun a b => b = a) (fun a b c h k => k.trans h) ((Moved.refl (G := fun a b => b = a) fun _ => rfl).then_heap (Nat.le_refl _) fun b o hb e => ?_) hm) hS' hacc⟩
       exact (Heap.get?_update_other _ _ (fun z => hb (by rw [z]; exact List.mem_cons_self))).trans e)
end
/-- list(reversed(x)), x a list: a new list -/
def tListRev (K : PySem.W.Frag) (te : TE) : TE := fun σ H Q => te σ H fun v H1 => ∃ (a : Addr) (xs : List V), v = .ref a ∧ SqL K H1 a xs ∧ ∀ q, H1 q = none → Q (.ref q) (upd H1 q (.lst xs.reverse))
theorem pe_listRev {X : Cx} {K : PySem.W.Frag} {e : Expr} {te : TE} {p p2 pos pos2 : Pos} (eK : X.K = K) (hc : X.calm = true) (hg : Gl X "list") (hm : X.mg "list" = none) (hg2 : Gl X "reversed") (hm2 : X.mg "reversed" = none) (he : PE X e te)
    (hs : starEach [e] X.env = (false, eval e X.env) :: starEach [] X.env := by rfl)
    (hs2 : starEach [.Call (.Name "reversed" p2) [e] [] pos2] X.env = (false, eval (.Call (.Name "reversed" p2) [e] [] pos2) X.env) :: starEach [] X.env := by rfl) :
    PE X (.Call (.Name "list" p) [.Call (.Name "reversed" p2) [e] [] pos2] [] pos) (tListRev K te) := by
  subst eK
  refine ⟨fun pins s σ H Q I h => Call_ (ld_blt I hg hm boot_list (PyProof.Rows.callWith_type1 (args_cons (Call_ (ld_blt I hg2 hm2 PyProof.Rows.boot_reversed (PyProof.Rows.callWith_type1 (args_cons (thn (he.run pins s σ H _ I h) fun u s1 ⟨v, H1, I1, r1, a, xs, ev, hq, q⟩ => args_nil ?_) hs) hs rfl))) hs2) hs2 rfl))⟩
  subst ev
  obtain rfl : u = Value.ref a := r1
  obtain ⟨its, rv, pl, hz⟩ := I1.list hq
  have hl := pl.isList
  have hlen := rv.length
  obtain ⟨ol, hol, _⟩ := id hl
  refine call_reversed_list hl (args_nil ?_)
  have I2 : Inv X pins σ H1 { s1 with heap := s1.heap.push (revObj a ((its.toArray.size : Int) - 1)) } := I1.kept (t' := s1.toks) fun b o z => Heap.get?_push_of_some _ z
  obtain ⟨f0, f1, f2, f3, f4, f5⟩ := I1.fpOk (H' := H1) (b := s1.heap.objs.size) (Nat.le_refl _) (I1.hok.fresh (Nat.le_refl _))
  refine make_rev (s := { s1 with heap := s1.heap.push (revObj a ((its.toArray.size : Int) - 1)) }) (items := its.toArray) (I1.ok.hd hc) ⟨_, Heap.get?_push_size _ rfl, rfl, rfl⟩ (hl.push _) (Nat.ne_of_lt (Heap.lt_size hol)) (by rw [List.size_toArray]; omega) fun s' acc' c' hm hS hi => ?_
  rw [Moved.eq_with hm]
  have new : H1 (s1.heap.objs.size + 1) = none := I1.hok.fresh (Nat.le_succ _)
  have at1 : ({ s1 with heap := s1.heap.push (revObj a ((its.toArray.size : Int) - 1)) } : Shared).heap.objs.size = s1.heap.objs.size + 1 := by simp [Heap.push]
  rw [at1] at hS hm ⊢
  have keep : ∀ b o, b ≠ s1.heap.objs.size → b ≠ s1.heap.objs.size + 1 → ((s1.heap.push (revObj a ((its.toArray.size : Int) - 1))).push nilO).get? b = some o → s'.heap.get? b = some o := fun b o n n1 z => hm.heap b o (by simp [n, n1]) z
  have I3 : Inv X pins σ (upd H1 (s1.heap.objs.size + 1) (.lst [])) { s1 with heap := (s1.heap.push (revObj a ((its.toArray.size : Int) - 1))).push nilO } :=
    I2.laid (t' := s1.toks) (fun b o z => Heap.get?_push_of_some _ z) (Nat.le_of_eq at1) ⟨Nat.zero_le _, [], 0, .nil, by rw [← at1]; exact Heap.get?_push_size _ rfl⟩
  have n2 : s1.heap.objs.size ≠ s1.heap.objs.size + 1 := Nat.ne_of_lt (Nat.lt_succ_self _)
  have mid : (s'.heap.update (s1.heap.objs.size + 1) (fun _ => nilO)).get? (s1.heap.objs.size + 1) = some nilO := Heap.get?_update_self _ hS rfl
  have I4 : Inv X pins σ (upd H1 (s1.heap.objs.size + 1) (.lst [])) { s1 with heap := s'.heap.update (s1.heap.objs.size + 1) (fun _ => nilO), toks := s'.toks } := by
    refine I3.turned (t' := s'.toks) (fun b o n z => ?_) (by rw [upd_ne n2]; exact I1.hok.fresh (Nat.le_refl _)) f1 f3 f4 f5
    by_cases e : b = s1.heap.objs.size + 1
    · subst e
      rw [← at1] at z
      rw [Heap.get?_push_size _ rfl] at z
      cases z
      exact mid
    · exact (Heap.get?_update_other _ _ (Ne.symm e)).trans (keep b o n e z)
  have I5 : Inv X pins σ (upd (upd H1 (s1.heap.objs.size + 1) (.lst [])) (s1.heap.objs.size + 1) (.lst xs.reverse)) { s1 with heap := s'.heap, toks := s'.toks } :=
    I4.write (by rw [upd_same]; trivial) (.inl rfl) (fun b o n z => by rw [← z]; exact (Heap.get?_update_other _ _ (Ne.symm n)).symm) ⟨_, hS⟩ ⟨by rw [List.length_reverse]; exact hz, acc'.toList, c', RT.vals_rev rv hi, by rw [hS]⟩
  refine ⟨.ref _, _, I5, rfl, ?_⟩
  rw [upd_upd]
  exact q _ new
end Fl

set_option Elab.async false
set_option linter.all false
set_option maxRecDepth 100000
set_option maxHeartbeats 4000000
/-! turning sums, reversed contours: the mathematics -/
namespace Fl
open PySem PySem.Spec PyProof.Rows L2

def cr (p q : Pt) : Int := p.1 * q.2.1 - q.1 * p.2.1
/-- over a path -/
def pa : List Pt → Int
  | p :: q :: l => cr p q + pa (q :: l)
  | _ => 0
def tc (c : List Pt) : Int := ((c.zip (beg c 1)).map fun z => cr z.1 z.2).sum
def ts (o : List (List Pt)) : Int := (o.map tc).sum
def rv (c : List Pt) : List Pt := c.take 1 ++ (c.drop 1).reverse
theorem pa_app : ∀ (u : List Pt) (x : Pt) (v : List Pt), pa (u ++ x :: v) = pa (u ++ [x]) + pa (x :: v)
  | [], x, v => by simp [pa]
  | [y], x, v => by simp [pa]
  | y :: z :: u, x, v => by
    have ih := pa_app (z :: u) x v
    show cr y z + pa (z :: u ++ x :: v) = cr y z + pa (z :: u ++ [x]) + pa (x :: v)
    rw [ih, Int.add_assoc]
theorem pa_rev : ∀ l : List Pt, pa l.reverse = -pa l
  | [] => rfl
  | [_] => rfl
  | p :: q :: l => by
    have ih := pa_rev (q :: l)
    rw [List.reverse_cons] at ih
    rw [List.reverse_cons, List.reverse_cons, List.append_assoc]
    show pa (l.reverse ++ q :: [p]) = -(cr p q + pa (q :: l))
    rw [pa_app, ih]
    show -pa (q :: l) + (cr q p + 0) = _
    unfold cr
    omega
theorem tc_pa (p : Pt) (l : List Pt) : tc (p :: l) = pa (p :: l ++ [p]) := by
  have key : ∀ (l : List Pt) (p x : Pt), (((p :: l).zip (l ++ [x])).map fun z => cr z.1 z.2).sum = pa (p :: l ++ [x]) := by
    intro l
    induction l with
    | nil => intro p x; simp [pa]
    | cons q l ih =>
      intro p x
      have := ih q x
      show (cr p q :: ((q :: l).zip (l ++ [x])).map fun z => cr z.1 z.2).sum = cr p q + pa (q :: l ++ [x])
      rw [List.sum_cons, this]
  exact key l p p
theorem tc_rv (c : List Pt) : tc (rv c) = -tc c := by
  cases c with
  | nil => rfl
  | cons p l =>
    show tc (p :: l.reverse) = _
    rw [tc_pa, tc_pa, ← pa_rev]
    congr 1
    simp
theorem ts_rv (o : List (List Pt)) : ts (o.map rv) = -ts o := by
  unfold ts
  induction o with
  | nil => rfl
  | cons c o ih =>
    rw [List.map_cons, List.map_cons, List.sum_cons, List.map_cons, List.sum_cons, ih, tc_rv]
    omega
theorem rv_rv (c : List Pt) : rv (rv c) = c := by
  cases c with
  | nil => rfl
  | cons p l =>
    show p :: l.reverse.reverse = _
    rw [List.reverse_reverse]
theorem rv_len (c : List Pt) : (rv c).length = c.length := by
  cases c with
  | nil => rfl
  | cons p l =>
    show (p :: l.reverse).length = _
    simp
theorem rv_mem {c : List Pt} {x : Pt} : x ∈ rv c ↔ x ∈ c := by
  cases c with
  | nil => rfl
  | cons p l =>
    show x ∈ p :: l.reverse ↔ _
    simp
/-! turn by turn -/
def tz (c : List Pt) (i : Nat) : Int := (((c.zip (beg c 1)).take i).map fun z => cr z.1 z.2).sum
theorem tz_zero (c : List Pt) : tz c 0 = 0 := rfl
theorem tz_all (c : List Pt) : tz c c.length = tc c := by
  unfold tz tc
  rw [List.take_of_length_le (by rw [List.length_zip, beg_len]; omega)]
theorem beg1_get {c : List Pt} {i : Nat} (h : i < c.length) : (beg c 1)[i]? = c[(i + 1) % c.length]? := by
  unfold beg
  rcases Nat.lt_or_ge (i + 1) c.length with g | g
  · rw [Nat.mod_eq_of_lt g, List.getElem?_append_left (by rw [List.length_drop]; omega), List.getElem?_drop, Nat.add_comm]
  · have e : i + 1 = c.length := by omega
    rw [e, Nat.mod_self, List.getElem?_append_right (by rw [List.length_drop]; omega), List.length_drop]
    have : i - (c.length - 1) = 0 := by omega
    rw [this]
    cases c with
    | nil => cases h
    | cons p l => rfl
theorem tz_succ {c : List Pt} {i : Nat} {p q : Pt} (hp : c[i]? = some p) (hq : (beg c 1)[i]? = some q) : tz c (i + 1) = tz c i + cr p q := by
  unfold tz
  rw [take_zip hp hq, List.map_append, List.sum_append]
  simp
theorem cr_big {p q : Pt} (hp : PtIn (10 ^ 6) p) (hq : PtIn (10 ^ 6) q) : (cr p q).natAbs ≤ 2 * 10 ^ 12 ∧ (p.1 * q.2.1).natAbs ≤ 10 ^ 12 ∧ (q.1 * p.2.1).natAbs ≤ 10 ^ 12 := by
  obtain ⟨a1, a2, a3, a4⟩ := hp
  obtain ⟨b1, b2, b3, b4⟩ := hq
  have h1 : (p.1 * q.2.1).natAbs ≤ 10 ^ 12 := by
    rw [Int.natAbs_mul]
    exact Nat.le_trans (Nat.mul_le_mul (show p.1.natAbs ≤ 10 ^ 6 by omega) (show q.2.1.natAbs ≤ 10 ^ 6 by omega)) (by decide)
  have h2 : (q.1 * p.2.1).natAbs ≤ 10 ^ 12 := by
    rw [Int.natAbs_mul]
    exact Nat.le_trans (Nat.mul_le_mul (show q.1.natAbs ≤ 10 ^ 6 by omega) (show p.2.1.natAbs ≤ 10 ^ 6 by omega)) (by decide)
  refine ⟨?_, h1, h2⟩
  unfold cr
  omega
/-! how data is shown -/
structure Sw (k W : Nat) (d : PyData) : Prop where
  sh : d.showable = true
  nd : d.hasDict = false
  lv : d.leavesShort 13 = true
  dp : d.depth ≤ k
  wt : d.weight ≤ W
theorem Sw.shw {k W : Nat} {d : PyData} (h : Sw k W d) (hk : k ≤ 40) (hW : W ≤ 2 ^ 20) : Shw d := ⟨h.sh, h.nd, Nat.le_trans h.dp hk, h.lv, Nat.le_trans h.wt hW⟩
theorem Sw.mono {k W j U : Nat} {d : PyData} (h : Sw k W d) (hk : k ≤ j) (hW : W ≤ U) : Sw j U d := ⟨h.sh, h.nd, h.lv, Nat.le_trans h.dp hk, Nat.le_trans h.wt hW⟩
theorem Sw.all {k W : Nat} : ∀ ds : List PyData, (∀ d, d ∈ ds → Sw k W d) → PyData.showableAll ds = true ∧ PyData.hasDictAll ds = false ∧ PyData.leavesShortAll 13 ds = true ∧ PyData.depthAll ds ≤ k ∧ PyData.weightAll ds ≤ (W + 1) * ds.length
  | [], _ => by simp [PyData.showableAll, PyData.hasDictAll, PyData.leavesShortAll, PyData.depthAll, PyData.weightAll]
  | d :: ds, h => by
    obtain ⟨a, b, c, e, f⟩ := h d (by simp)
    obtain ⟨a2, b2, c2, e2, f2⟩ := Sw.all ds fun e m => h e (List.mem_cons_of_mem _ m)
    refine ⟨by simp [PyData.showableAll, a, a2], by simp [PyData.hasDictAll, b, b2], by simp [PyData.leavesShortAll, c, c2], ?_, ?_⟩
    · simp only [PyData.depthAll]
      omega
    · simp only [PyData.weightAll, List.length_cons, Nat.mul_succ]
      omega
theorem Sw.lst {k W : Nat} {ds : List PyData} (h : ∀ d, d ∈ ds → Sw k W d) : Sw (k + 1) ((W + 1) * ds.length) (.list ds) := by
  obtain ⟨a, b, c, e, f⟩ := Sw.all ds h
  exact ⟨by simpa [PyData.showable] using a, by simpa [PyData.hasDict] using b, by simpa [PyData.leavesShort] using c, by simp only [PyData.depth]; omega, by simp only [PyData.weight]; omega⟩
theorem Sw.tup {k W : Nat} {ds : List PyData} (h : ∀ d, d ∈ ds → Sw k W d) : Sw (k + 1) ((W + 1) * ds.length) (.tuple ds) := by
  obtain ⟨a, b, c, e, f⟩ := Sw.all ds h
  exact ⟨by simpa [PyData.showable] using a, by simpa [PyData.hasDict] using b, by simpa [PyData.leavesShort] using c, by simp only [PyData.depth]; omega, by simp only [PyData.weight]; omega⟩
theorem Sw.int {i : Int} (h : i.natAbs < 10 ^ 12) : Sw 0 41 (.int i) := by
  have h2 : i.natAbs < 2 ^ 41 := Nat.lt_of_lt_of_le h (by decide)
  have l : i.natAbs.log2 ≤ 40 := by
    rcases Nat.eq_zero_or_pos i.natAbs with z | z
    · rw [z]; decide
    · have := (Nat.log2_lt (k := 41) (by omega)).mpr h2
      omega
  refine ⟨?_, rfl, ?_, Nat.le_refl _, ?_⟩
  · simp only [PyData.showable, decide_eq_true_eq]
    omega
  · simp only [PyData.leavesShort, decide_eq_true_eq]
    exact PyData.shown_int_le h
  · simp only [PyData.weight]
    split <;> omega
theorem Sw.bl {b : Bool} : Sw 0 0 (.bool b) := ⟨rfl, rfl, rfl, Nat.le_refl _, Nat.le_refl _⟩
theorem Sw.int20 {i : Int} (h : i.natAbs ≤ 10 ^ 6) : Sw 0 20 (.int i) := by
  obtain ⟨a, b, c, d, _⟩ := Sw.int (i := i) (by omega)
  refine ⟨a, b, c, d, ?_⟩
  have l : i.natAbs.log2 ≤ 19 := by
    rcases Nat.eq_zero_or_pos i.natAbs with z | z
    · rw [z]; decide
    · have := (Nat.log2_lt (k := 20) (by omega)).mpr (Nat.lt_of_le_of_lt h (by decide))
      omega
  simp only [PyData.weight]
  split <;> omega
theorem sw_pt {p : Pt} (h : PtIn (10 ^ 6) p) : Sw 1 63 (ptD p) := by
  obtain ⟨h1, h2, h3, h4⟩ := h
  refine (Sw.tup (k := 0) (W := 20) fun d m => ?_).mono (Nat.le_refl _) (by show (20 + 1) * 3 ≤ 63; decide)
  simp only [List.mem_cons, List.not_mem_nil, or_false] at m
  rcases m with rfl | rfl | rfl
  · exact Sw.int20 (by omega)
  · exact Sw.int20 (by omega)
  · exact Sw.bl.mono (Nat.le_refl _) (by decide)
theorem sw_ct {c : List Pt} {n : Nat} (h : ∀ p, p ∈ c → PtIn (10 ^ 6) p) (hn : c.length ≤ n) : Sw 2 (64 * n) (ctD c) := by
  refine (Sw.lst (k := 1) (W := 63) fun d m => ?_).mono (Nat.le_refl _) (by rw [List.length_map]; omega)
  obtain ⟨p, hp, rfl⟩ := List.mem_map.mp m
  exact sw_pt (h p hp)
theorem sw_ou {o : List (List Pt)} {n : Nat} (h : ∀ c, c ∈ o → c.length ≤ n ∧ ∀ p, p ∈ c → PtIn (10 ^ 6) p) : Sw 3 ((64 * n + 1) * o.length) (ouD o) := by
  refine (Sw.lst (k := 2) (W := 64 * n) fun d m => ?_).mono (Nat.le_refl _) (by rw [List.length_map]; exact Nat.le_refl _)
  obtain ⟨c, hc, rfl⟩ := List.mem_map.mp m
  exact sw_ct (h c hc).2 (h c hc).1
end Fl
namespace Fl
open PySem PySem.Spec PyProof.Rows L2
def fTs (ds : List PyData) (d : PyData) : Prop := ∃ o : List (List Pt), ds = [ouD o] ∧ o.length ≤ 100 ∧ (∀ c, c ∈ o → c.length ≤ 100 ∧ ∀ p, p ∈ c → PtIn (10 ^ 6) p) ∧ d = .int (ts o)
def fRv (ds : List PyData) (d : PyData) : Prop := ∃ o : List (List Pt), ds = [ouD o] ∧ o.length ≤ 100 ∧ (∀ c, c ∈ o → c.length ≤ 100) ∧ d = ouD (o.map rv)
theorem ts_take {o : List (List Pt)} {i : Nat} {c : List Pt} (h : o[i]? = some c) : ((o.take (i + 1)).map tc).sum = ((o.take i).map tc).sum + tc c := by
  rw [List.take_succ, h, List.map_append, List.sum_append]
  simp
theorem md_cast (i n : Nat) : ((i : Int) + 1) % (n : Int) = (((i + 1) % n : Nat) : Int) := by
  rw [Int.natCast_emod]
  rfl
theorem sz12 {n : Int} (h : n.natAbs ≤ 10 ^ 12) : n.natAbs < 2 ^ 4000 := Nat.lt_of_le_of_lt h (by decide +kernel)
theorem sz6 {n : Int} (h1 : -(10 ^ 6) ≤ n) (h2 : n ≤ 10 ^ 6) : n.natAbs < 2 ^ 4000 := sz12 (by omega)
end Fl
namespace Fl
open PySem PySem.Spec PyProof.Rows L2
section
variable {K : PySem.W.Frag} {H : Hp} {Q : VK} {a : Addr} {xs : List V} {te : TE} {σ : L2.St}
theorem g_lrev (h : te σ H fun v H1 => ∃ (a : Addr) (xs : List V), v = .ref a ∧ SqL K H1 a xs ∧ ∀ q, H1 q = none → Q (.ref q) (upd H1 q (.lst xs.reverse))) : tListRev K te σ H Q := h
theorem g_lrev2 {Q : Addr → List V → Prop} (h : SqL K H a xs) (q : Q a xs) : ∃ (b : Addr) (ys : List V), V.ref a = .ref b ∧ SqL K H b ys ∧ Q b ys := ⟨a, xs, rfl, h, q⟩
theorem g_eqS {x y : Str} (q : Q (.bl (decide (x = y))) H) : rEq (.str x) (.str y) H Q := ⟨rfl, by
  have e : decide (V.str x = V.str y) = decide (x = y) := by simp
  rw [e]; exact q⟩
end
end Fl

set_option Elab.async false
set_option linter.all false
set_option maxRecDepth 100000
set_option maxHeartbeats 4000000
/-! proper outlines -/
namespace Fl
open PySem PySem.Spec PyProof.Rows L2
def cnt (o : List (List Pt)) : Int := (o.map fun c => (c.length : Int)).sum
def okP (p : Pt) : Bool := decide (-16384 ≤ p.1 ∧ p.1 ≤ 16384 ∧ -16384 ≤ p.2.1 ∧ p.2.1 ≤ 16384)
def okC (c : List Pt) : Bool := decide (2 ≤ c.length) && c.all okP
def prp (o : List (List Pt)) : Bool := (decide (o.length ≤ 40) && decide (cnt o ≤ 200)) && o.all okC
def fCt (ds : List PyData) (d : PyData) : Prop := ∃ o : List (List Pt), ds = [ouD o] ∧ o.length ≤ 100 ∧ d = .int (cnt o)
def fPr (ds : List PyData) (d : PyData) : Prop := ∃ o : List (List Pt), ds = [ouD o] ∧ o.length ≤ 100 ∧ (∀ c, c ∈ o → c.length ≤ 900) ∧ d = .bool (prp o)
theorem cnt_flat (o : List (List Pt)) : cnt o = (o.flatten.length : Int) := by
  unfold cnt
  induction o with
  | nil => rfl
  | cons c o ih =>
    rw [List.map_cons, List.sum_cons, ih, List.flatten_cons, List.length_append]
    omega
theorem prp_many {o : List (List Pt)} (h : ¬ ((o.length : Int) ≤ 40)) : prp o = false := by
  unfold prp
  rw [decide_eq_false (by omega), Bool.false_and, Bool.false_and]
theorem prp_cnt {o : List (List Pt)} (h : ¬ (cnt o ≤ 200)) : prp o = false := by
  unfold prp
  rw [decide_eq_false h, Bool.and_false, Bool.false_and]
theorem prp_c {o : List (List Pt)} {c : List Pt} (m : c ∈ o) (h : okC c = false) : prp o = false := by
  unfold prp
  have : o.all okC = false := by
    rw [List.all_eq_false]
    exact ⟨c, m, by rw [h]; exact Bool.false_ne_true⟩
  rw [this, Bool.and_false]
theorem prp_true {o : List (List Pt)} (h1 : (o.length : Int) ≤ 40) (h2 : cnt o ≤ 200) (h3 : ∀ c, c ∈ o → okC c = true) : prp o = true := by
  unfold prp
  rw [decide_eq_true (by omega), decide_eq_true h2, List.all_eq_true.mpr h3]
  rfl
theorem okC_few {c : List Pt} (h : (c.length : Int) < 2) : okC c = false := by
  unfold okC
  rw [decide_eq_false (by omega), Bool.false_and]
theorem okC_p {c : List Pt} {p : Pt} (m : p ∈ c) (h : okP p = false) : okC c = false := by
  unfold okC
  have : c.all okP = false := by
    rw [List.all_eq_false]
    exact ⟨p, m, by rw [h]; exact Bool.false_ne_true⟩
  rw [this, Bool.and_false]
theorem okC_true {c : List Pt} (h1 : ¬ (c.length : Int) < 2) (h3 : ∀ p, p ∈ c → okP p = true) : okC c = true := by
  unfold okC
  rw [decide_eq_true (by omega), List.all_eq_true.mpr h3]
  rfl
theorem okP_f {p : Pt} (h : ¬ (-16384 ≤ p.1 ∧ p.1 ≤ 16384 ∧ -16384 ≤ p.2.1 ∧ p.2.1 ≤ 16384)) : okP p = false := decide_eq_false h
theorem okP_t {p : Pt} (h : -16384 ≤ p.1 ∧ p.1 ≤ 16384 ∧ -16384 ≤ p.2.1 ∧ p.2.1 ≤ 16384) : okP p = true := decide_eq_true h
theorem take_mem {α : Type} {l : List α} {P : α → Prop} {i : Nat} {x : α} (hx : l[i]? = some x) (h : ∀ y, y ∈ l.take i → P y) (k : P x) : ∀ y, y ∈ l.take (i + 1) → P y := by
  intro y m
  rw [List.take_succ, hx] at m
  rcases List.mem_append.mp m with m | m
  · exact h y m
  · rw [show y = x by simpa using m]
    exact k
/-- a changed outline -/
structure ChIn (o : List (List Pt)) : Prop where
  len : o.length ≤ 45
  cs : ∀ c, c ∈ o → c.length ≤ 300 ∧ ∀ p, p ∈ c → PtIn (10 ^ 6) p
  fl : o.flatten.length ≤ 400
def spCh : Sp := fun vs H Q _ => ∃ (d s : Addr) (ns : List Int) (a : V) (o : List (List Pt)), vs = [.ref d, a] ∧ Dk d s ns H ∧ Dq [d] H a (ouD o) ∧ OuIn 2 400 o ∧
  ∀ t H' o', Dk d s ns H' → Dq [d] H' t (ouD o') → ChIn o' → Q t H'
theorem flat_len {n : Nat} : ∀ {o : List (List Pt)}, (∀ c, c ∈ o → c.length ≤ n) → o.flatten.length ≤ n * o.length
  | [], _ => Nat.zero_le _
  | c :: o, h => by
    have h1 := h c (by simp)
    have h2 := flat_len (o := o) fun x m => h x (List.mem_cons_of_mem _ m)
    rw [List.flatten_cons, List.length_append, List.length_cons, Nat.mul_succ]
    omega
theorem OuIn.ch {o : List (List Pt)} (h : OuIn 2 400 o) : ChIn o := by
  have h1 := h.len
  refine ⟨by omega, fun c m => ?_, ?_⟩
  · obtain ⟨g1, g2, g3⟩ := h.cs c m
    refine ⟨by omega, fun p mp => ?_⟩
    obtain ⟨g1, g2, g3, g4⟩ := g3 p mp
    exact ⟨by omega, by omega, by omega, by omega⟩
  · have := flat_len (n := 7) fun c m => (h.cs c m).2.1
    omega
theorem ChIn.app {o u : List (List Pt)} (h : OuIn 2 400 o) (h1 : u.length ≤ 42) (h2 : ∀ c, c ∈ u → c.length ≤ 300 ∧ ∀ p, p ∈ c → PtIn (10 ^ 6) p) (h3 : u.flatten.length ≤ 300) : ChIn (o ++ u) := by
  obtain ⟨a, b, c⟩ := h.ch
  have h0 := h.len
  have := flat_len (n := 7) fun c m => (h.cs c m).2.1
  refine ⟨by rw [List.length_append]; omega, fun c m => ?_, by rw [List.flatten_append, List.length_append]; omega⟩
  rcases List.mem_append.mp m with m | m
  · exact b c m
  · exact h2 c m
theorem ChIn.pre {o : List (List Pt)} (h : OuIn 2 400 o) : ChIn ([] :: o) := by
  obtain ⟨a, b, c⟩ := h.ch
  have h0 := h.len
  refine ⟨by rw [List.length_cons]; omega, fun c m => ?_, by simpa using c⟩
  rcases List.mem_cons.mp m with rfl | m
  · exact ⟨by simp, fun _ m => nomatch m⟩
  · exact b c m
theorem PtIn.big {p : Pt} (h : PtIn 400 p) : PtIn (10 ^ 6) p := by
  obtain ⟨g1, g2, g3, g4⟩ := h
  exact ⟨by omega, by omega, by omega, by omega⟩
/-- same(x, y), of data at a depth of up to one -/
def spSm12 : Sp := fun vs H Q E => spSm1 vs H Q E ∨ spSm2 vs H Q E
theorem sh_tu {ds : List PyData} {n : Nat} (h : ∀ d, d ∈ ds → d.canLay0 = true ∧ d.depth ≤ n) (hn : n < 63) : (PyData.list ds).canLay0 = true ∧ (PyData.list ds).depth ≤ n + 1 := by
  have h1 := canLay_all (fun d => d.canLay0 = true) (fun _ h => h) ds (fun d m => (h d m).1)
  have h2 := depth_all n ds (fun d m => (h d m).2)
  refine ⟨by simp [PyData.canLay0, h1], ?_⟩
  simp only [PyData.depth]
  omega
theorem pt_lay (p : Pt) : (ptD p).canLay0 = true ∧ (ptD p).depth ≤ 1 := by
  unfold ptD
  simp [PyData.canLay0, PyData.canLayAll0, PyData.depth, PyData.depthAll]
theorem sh_ct (c : List Pt) : SeqAt.shaped (ctD c) = true := sh_list (n := 1) (fun d m => by
  obtain ⟨p, _, rfl⟩ := List.mem_map.mp m
  exact pt_lay p) (by decide)
theorem sh_nilL : SeqAt.shaped (.list []) = true := sh_list (n := 0) (fun d m => nomatch m) (by decide)
/-- a list of data is the empty list just if it has no item -/
theorem eqv_nil (ds : List PyData) : PyData.eqv (.list ds) (.list []) = ds.isEmpty := by
  cases ds with
  | nil => exact eqv_self sh_nilL
  | cons d ds => rfl
end Fl
namespace Fl
open PySem PySem.Spec PyProof.Rows L2
theorem fm_getD {β : Type} (f : Pt → Option β) : ∀ c : List Pt, (List.range c.length).filterMap (fun j => f (c.getD j p0)) = c.filterMap f
  | [] => rfl
  | p :: c => by
    rw [List.length_cons, List.range_succ_eq_map, List.filterMap_cons, List.filterMap_cons, List.filterMap_map]
    have ih := fm_getD f c
    have e : (List.range c.length).filterMap ((fun j => f ((p :: c).getD j p0)) ∘ Nat.succ) = c.filterMap f := ih
    rw [e]
    rfl
def bad (c : List Pt) : List PyData := c.filterMap fun p => if okP p = true then none else some (ptD p)
theorem bad_fm (c : List Pt) : (List.range c.length).filterMap (fun j => if okP (c.getD j p0) = true then none else some (ptD (c.getD j p0))) = bad c := fm_getD (fun p => if okP p = true then none else some (ptD p)) c
theorem bad_sh (c : List Pt) : SeqAt.shaped (.list (bad c)) = true := sh_list (n := 1) (fun d m => by
  obtain ⟨p, _, h⟩ := List.mem_filterMap.mp m
  split at h
  · cases h
  · cases h
    exact pt_lay p) (by decide)
theorem bad_nil {c : List Pt} (h : (bad c).isEmpty = true) : ∀ p, p ∈ c → okP p = true := by
  intro p m
  cases hp : okP p with
  | true => rfl
  | false =>
    have : ptD p ∈ bad c := List.mem_filterMap.mpr ⟨p, m, by rw [hp]; rfl⟩
    rw [List.isEmpty_iff.mp h] at this
    cases this
theorem bad_one {c : List Pt} (h : (bad c).isEmpty = false) : okC c = false := by
  cases hb : bad c with
  | nil => rw [hb] at h; cases h
  | cons d ds =>
    have m : d ∈ bad c := by rw [hb]; simp
    obtain ⟨p, mp, e⟩ := List.mem_filterMap.mp m
    split at e
    · cases e
    · rename_i hk
      exact okC_p mp (by simpa using hk)
theorem g_iteNB {b : Bool} {A B : Prop} (h1 : b = false → A) (h2 : b = true → B) : if (!b) = true then A else B := by
  cases b with
  | true => rw [if_neg (by decide)]; exact h2 rfl
  | false => rw [if_pos (by decide)]; exact h1 rfl
end Fl
namespace Fl
open PySem PySem.Spec PyProof.Rows L2
theorem cat_ou {S : List Addr} {H : Hp} {xs ys : List V} {o u : List (List Pt)} (h : DqA S H xs (o.map ctD)) (k : DqA S H ys (u.map ctD)) : DqA S H (xs ++ ys) ((o ++ u).map ctD) := by
  rw [List.map_append]
  exact h.app k
theorem rep_fm {α β : Type} (x : β) : ∀ l : List α, l.filterMap (fun _ => some x) = List.replicate l.length x
  | [] => rfl
  | _ :: l => by
    rw [List.filterMap_cons, rep_fm x l]
    rfl
theorem far_at {v : Int} (h0 : 0 ≤ v) (h1 : v < 4) : ∃ f : Int, atI [V.int 16384, V.int (-16384), V.int 16385, V.int (-16385)] v = some (.int f) ∧ -16385 ≤ f ∧ f ≤ 16385 := by
  rcases (by omega : v = 0 ∨ v = 1 ∨ v = 2 ∨ v = 3) with rfl | rfl | rfl | rfl
  · exact ⟨_, rfl, by decide, by decide⟩
  · exact ⟨_, rfl, by decide, by decide⟩
  · exact ⟨_, rfl, by decide, by decide⟩
  · exact ⟨_, rfl, by decide, by decide⟩
theorem flat_rep {α : Type} (x : List α) : ∀ n : Nat, (List.replicate n x).flatten.length = n * x.length
  | 0 => by simp
  | n + 1 => by rw [List.replicate_succ, List.flatten_cons, List.length_append, flat_rep x n, Nat.succ_mul, Nat.add_comm]
end Fl

set_option Elab.async false
set_option linter.all false
set_option maxRecDepth 100000
set_option maxHeartbeats 4000000
/-! the line of a contour by its ring and its start -/
namespace Fl
open PySem PySem.Spec PyProof.Rows L2
def wk (c : List Pt) (i : Nat) : List Pt := ((c.zip (beg c 1)).take i).flatMap fun z => w1 z.1 z.2
theorem wk_all (c : List Pt) : wk c c.length = wm c := by
  unfold wk
  rw [List.take_of_length_le (by rw [List.length_zip, beg_len]; omega)]
  exact wz_wm c
theorem wk_succ {c : List Pt} {i : Nat} {p q : Pt} (hp : c[i]? = some p) (hq : (beg c 1)[i]? = some q) : wk c (i + 1) = wk c i ++ w1 p q := by
  unfold wk
  rw [take_zip hp hq, List.flatMap_append]
  simp
theorem wk_len {c : List Pt} : ∀ i : Nat, (wk c i).length ≤ 2 * i
  | 0 => Nat.le_refl _
  | i + 1 => by
    have ih := wk_len (c := c) i
    rcases Nat.lt_or_ge i c.length with h | h
    · obtain ⟨p, hp⟩ : ∃ p, c[i]? = some p := ⟨_, List.getElem?_eq_getElem h⟩
      obtain ⟨q, hq⟩ : ∃ q, (beg c 1)[i]? = some q := ⟨_, List.getElem?_eq_getElem (by rw [beg_len]; exact h)⟩
      rw [wk_succ hp hq, List.length_append]
      have := (w1_len p q).2
      omega
    · have e : wk c (i + 1) = wk c i := by
        unfold wk
        rw [List.take_of_length_le (by rw [List.length_zip, beg_len]; omega), List.take_of_length_le (by rw [List.length_zip, beg_len]; omega)]
      rw [e]
      omega
def stOf (c : List Pt) : Int := match ps c with
  | [] => ((wm c).length : Int) - 1
  | k :: _ => ((wk c k).length : Int)
theorem wk_wp {u : List Pt} {p : Pt} {v : List Pt} : wk (u ++ p :: v) u.length = wp u p := by
  cases u with
  | nil => rfl
  | cons x u =>
    have e : (x :: u ++ p :: v).zip (beg (x :: u ++ p :: v) 1) = (x :: u).zip (u ++ [p]) ++ (p :: v).zip (v ++ [x]) := by
      have e2 : beg (x :: u ++ p :: v) 1 = (u ++ [p]) ++ (v ++ [x]) := by
        unfold beg
        simp
      rw [e2]
      exact List.zip_append (by simp)
    unfold wk
    rw [e, List.take_append_of_le_length (by simp), List.take_of_length_le (by simp)]
    exact wz_wp u x p
theorem beg_ro {c : List Pt} (n : c ≠ []) : ∃ k : Nat, stOf c = (k : Int) ∧ k ≤ (wm c).length ∧ beg (wm c) k = ro c := by
  have hl := (wm_len c).1
  have hc : 0 < c.length := List.length_pos_iff.mpr n
  unfold stOf ro
  cases hp : ps c with
  | nil =>
    refine ⟨(wm c).length - 1, by show ((wm c).length : Int) - 1 = _; omega, by omega, ?_⟩
    unfold beg
    rw [List.dropLast_eq_take]
  | cons k l =>
    have hk : k < c.length := ps_lt (by rw [hp]; simp)
    obtain ⟨u, p, v, rfl, rfl⟩ : ∃ (u : List Pt) (p : Pt) (v : List Pt), c = u ++ p :: v ∧ k = u.length := by
      refine ⟨c.take k, c[k], c.drop (k + 1), ?_, ?_⟩
      · rw [List.getElem_cons_drop, List.take_append_drop]
      · rw [List.length_take]; omega
    refine ⟨(wk (u ++ p :: v) u.length).length, rfl, ?_, ?_⟩
    · rw [wk_wp]
      cases u with
      | nil => exact Nat.zero_le _
      | cons x u =>
        have e1 : wm (x :: u ++ p :: v) = wp (x :: u) p ++ wp (p :: v) x := wp_app (x :: u) p v x
        rw [e1, List.length_append]
        omega
    · show beg (wm (u ++ p :: v)) (wk (u ++ p :: v) u.length).length = wm (beg (u ++ p :: v) u.length)
      rw [wk_wp]
      have e0 : beg (u ++ p :: v) u.length = p :: v ++ u := by
        unfold beg
        simp
      rw [e0]
      cases u with
      | nil =>
        unfold beg
        simp [wp]
      | cons x u =>
        have e1 : wm (x :: u ++ p :: v) = wp (x :: u) p ++ wp (p :: v) x := wp_app (x :: u) p v x
        have e2 : wm (p :: v ++ x :: u) = wp (p :: v) x ++ wp (x :: u) p := wp_app (p :: v) x u p
        rw [e1, e2]
        unfold beg
        simp
theorem na_get : ∀ {l : List Pt} {i : Nat} {p q : Pt}, Na l → l[i]? = some p → l[i + 1]? = some q → p.2.2 = true ∨ q.2.2 = true
  | [], _, _, _, _, h, _ => by simp at h
  | [x], i, p, q, _, _, h => by simp at h
  | x :: y :: l, 0, p, q, na, h, k => by
    simp at h k
    subst h k
    exact na.1
  | x :: y :: l, i + 1, p, q, na, h, k => na_get (l := y :: l) (i := i) na.2 (by simpa using h) (by simpa using k)
def fRi (ds : List PyData) (d : PyData) : Prop := ∃ c : List Pt, ds = [ctD c] ∧ c.length ≤ 100 ∧ d = ctD (wm c)
def fSt (ds : List PyData) (d : PyData) : Prop := ∃ c : List Pt, ds = [ctD c] ∧ c.length ≤ 100 ∧ d = .int (stOf c)
theorem stOf_first {c : List Pt} {k : Nat} {p : Pt} (hk : c[k]? = some p) (on : p.2.2 = true) (off : ∀ x, x ∈ c.take k → x.2.2 = false) : stOf c = ((wk c k).length : Int) := by
  have hkl := (List.getElem?_eq_some_iff.mp hk).1
  have e : ∃ l, ps c = k :: l := by
    unfold ps
    have h1 : List.range c.length = List.range k ++ (List.range (c.length - k)).map (k + ·) := by
      rw [← List.range_add]
      congr 1
      omega
    rw [h1, List.filter_append]
    have h2 : (List.range k).filter (fun i => (c.getD i p0).2.2) = [] := by
      rw [List.filter_eq_nil_iff]
      intro i hi
      have hi := List.mem_range.mp hi
      obtain ⟨x, hx⟩ : ∃ x, c[i]? = some x := ⟨_, List.getElem?_eq_getElem (by omega)⟩
      rw [getD_of hx, off x (List.mem_of_getElem? (i := i) (by rw [List.getElem?_take]; simp [hi, hx]))]
      decide
    rw [h2, List.nil_append]
    obtain ⟨n, hn⟩ : ∃ n, c.length - k = n + 1 := ⟨c.length - k - 1, by omega⟩
    rw [hn, List.range_succ_eq_map, List.map_cons, List.filter_cons]
    have : (c.getD (k + 0) p0).2.2 = true := by
      rw [Nat.add_zero, getD_of hk]
      exact on
    rw [if_pos this]
    exact ⟨_, rfl⟩
  obtain ⟨l, e⟩ := e
  unfold stOf
  rw [e]
theorem stOf_none {c : List Pt} (off : ∀ x, x ∈ c → x.2.2 = false) : stOf c = ((wm c).length : Int) - 1 := by
  have e : ps c = [] := by
    unfold ps
    rw [List.filter_eq_nil_iff]
    intro i hi
    have hi := List.mem_range.mp hi
    obtain ⟨x, hx⟩ : ∃ x, c[i]? = some x := ⟨_, List.getElem?_eq_getElem hi⟩
    rw [getD_of hx, off x (List.mem_of_getElem? hx)]
    decide
  unfold stOf
  rw [e]
end Fl

set_option Elab.async false
set_option linter.all false
set_option maxRecDepth 100000
set_option maxHeartbeats 4000000
set_option exponentiation.threshold 20000
/-! own errors: B.__init__(self, ..) of an own base; X() without fields; isinstance of a caught one -/
namespace Fl
open PySem PySem.Spec PyProof.Rows L2
/-- what the written part says of an own base class whose __init__ is ValueError's -/
structure BaseC (K : PySem.W.Frag) (C : Addr) : Prop where
  sg : PySem.W.specialIn K (.ref C) "__getattribute__" = some (some (.builtin "type.__getattribute__"))
  ty : PySem.W.typeIn K (.ref C) = some (.type "type")
  rd : PySem.W.readsIn K C (.type "type") = true
  fc : PySem.W.findCls K (.ref C) (.type "type") "__init__" = some (.val (.builtin "ValueError.__init__"))
section
variable {X : Cx} {o e : Expr} {es : List Expr} {te : TE} {ta : TA} {x : Str} {C : Addr} {p p' p1 p2 pos : Pos}
theorem pe_binit {pl : Sem Bool} (hg : Gl X x) (hm : X.mg x = some (.ref C)) (B : BaseC X.K C) (ha : PA X (e :: es) ta) (hdb : (x == ("__debug__" : Str)) = false := by decide)
    (hc : eval (.Call (.Attribute (.Name x p1) "__init__" p2) (e :: es) [] pos) X.env = (do
      let ov ← eval (.Name x p1) X.env
      standAt p2.atName
      let (f, first) ← holding [ov] (getMethod ov "__init__" pl)
      callWith pos f first (backTo pos (starEach (e :: es) X.env)) (backToKw pos (keywordEach [] X.env))) := by rfl)
    (he : starEach (e :: es) X.env = (false, eval e X.env) :: starEach es X.env := by rfl) (hpl : (backTo pos (starEach es X.env)).any (·.1) = false := by rfl) :
    PE X (.Call (.Attribute (.Name x p1) "__init__" p2) (e :: es) [] pos) (tVeI X.K ta) := by
  refine ⟨fun pins s σ H Q I h => PySem.W.methodCall_KW (ld_glob I hg hm ?_ hdb) hc⟩
  obtain ⟨m, fr⟩ := I.fr
  refine PySem.W.method_of_cls fr I.ok.mod.kin B.sg (PySem.W.cls_val fr I.ok.mod.kin B.ty B.rd B.fc (by decide +kernel) ?_)
  refine PyProof.Rows.callWith_method1 (thn (ha.run pos pins _ σ H _ (I.tok _) h) fun us s1 ⟨vs, H1, I1, r1, a, C, ws, ev, hl, T, ea, q⟩ => ?_) he hpl
  subst ev
  cases r1 with
  | cons ra rw' =>
    cases ra
    exact oinit_ok T I1 ea (by rw [← Paired.length rw', sizeLine_eq]; omega) fun s' J => ⟨.non, H1, J, rfl, q⟩
end
section
variable {X : Cx}
/-- an error without fields, made: let go -/
theorem mk_nod {pins : List (Addr × Obj)} {σ : L2.St} {H1 H2 : Hp} {hp hp2 h2 : Heap} {g1 g2 : Array GenState} {d1 d2 : Drawn} {t1 t2 : Nat} {os1 os2 : OsState} {a C : Addr} (I1 : Inv X pins σ H1 ⟨hp, g1, d1, t1, os1⟩)
    (ha : hp.objs.size ≤ a) (k : ∀ b o, hp.get? b = some o → hp2.get? b = some o) (un : Un (frs X.stack) [] (upd H1 a (exo a C none)) H2 hp2 h2) (hok : HOk X.prog X.w H2 h2) (ho : os2 = os1) (hb : AllBare g2) (ea : H2 a = some (exo a C none)) :
    ∃ (t0 : Addr) (G : Heap), Inv X pins σ (del H2 a) ⟨G, g2, d2, t2, os2⟩ ∧ (∀ b o, G.get? b = some o → h2.get? b = some o) ∧ G.get? a = none ∧
      h2.get? a = some ({ cls := .ref C, dict := none, data := .fields #[.ref t0, .none, .none, .none, .bool false, .none] } : Obj) := by
  obtain ⟨t0, hoe⟩ := exo_at hok ea
  have hn : H1 a = none := I1.hok.fresh ha
  obtain ⟨G, gk', ge'⟩ := restrict h2 fun b => decide (b ≠ a)
  have gk : ∀ b, b ≠ a → G.get? b = h2.get? b := fun b n => gk' b (decide_eq_true n)
  have ge : G.get? a = none := ge' a (by simp)
  have old : ∀ {b : Addr} {u : Obj}, hp.get? b = some u → b ≠ a := fun z => Nat.ne_of_lt (Nat.lt_of_lt_of_le (Heap.lt_size z) ha)
  have none1 : ∀ {b : Addr}, b ≠ a → H1 b = none → upd H1 a (exo a C none) b = none := fun n z => (upd_ne n).trans z
  have some1 : ∀ {b : Addr} {u : HO}, H1 b = some u → upd H1 a (exo a C none) b = some u := fun z => (upd_ne (ne_of_none z hn)).trans z
  have U : Un (frs X.stack) [] H1 (del H2 a) hp G :=
    { keep := fun b u z n hf hx => (gk b (old z)).trans (un.keep b u (k b u z) (none1 (old z) n) hf hx)
      slot := fun b u z n hf hx => by rw [gk b (old z)]; exact un.slot b u (k b u z) (none1 (old z) n) hf hx
      free := fun b u z n hx => (del_ne (old z)).trans (un.free b u (k b u z) (none1 (old z) n) hx)
      there := fun b u z hx => by rw [gk b (old z)]; exact un.there b u (k b u z) hx
      tups := fun b xs z => (del_ne (ne_of_none z hn)).trans (un.tups b xs (some1 z))
      frzs := fun b u v z => (del_ne (ne_of_none z hn)).trans (un.frzs b u v (some1 z))
      tbls := fun b ps z => by rw [del_ne (ne_of_none z hn)]; exact un.tbls b ps (some1 z) }
  have hok3 : HOk X.prog X.w (del H2 a) G := fun b u z => by
    have n : b ≠ a := fun e => by rw [e, del_same] at z; cases z
    rw [del_ne n] at z
    have away : ∀ {c : Addr}, H2 c = some (.own b) → c ≠ a := fun hc => at_ne ea hc exo_own
    refine (hok b u z).stay (fun c v hc y => (gk c ?_).trans y) (fun c hc => (del_ne (away hc)).trans hc) (fun c xs hc => (del_ne (at_ne ea hc exo_tup)).trans hc)
    rcases hc with hc | hc
    · rw [hc]; exact n
    · exact away hc
  refine ⟨t0, G, I1.call' (ch := []) ho U hok3 hb (fun b z => absurd z (by simp)), fun b u z => ?_, ge, hoe⟩
  rcases Decidable.em (b = a) with e | e
  · rw [e, ge] at z; cases z
  · exact (gk b e).symm.trans z
/-- X(), X's __init__ keeping sp -/
def tMkN (C : Addr) (sp : Sp) : L2.St → Hp → XK → Prop := fun _ H Q => ∀ a, H a = none → sp [.ref a] (upd H a (exo a C none)) (fun v H2 => v = .non ∧ H2 a = some (exo a C none) ∧ Q (.ref C) none (del H2 a)) (fun _ _ _ => False)
theorem pmk_nod {CX : CXT} {x : Str} {C fI : Addr} {k : Nat} {fd : FuncData} {ps : List Str} {sp : Sp} {p pos : Pos} (T : OexC X.K C) (iC : PySem.W.findIn X.K (.ref C) "__init__" = some (some (.ref fI))) (tI : PySem.W.typeIn X.K (.ref fI) = some (.type "function"))
    (F1 : FnOk X.prog X.w X.K X.mg X.base CX k fI fd ps sp) (hr : Room (k + 1) X.A) (hb : Binds X.K fd ps []) (hx : Passes CX X (fun _ _ _ => False)) (hg : Gl X x) (hm : X.mg x = some (.ref C)) (hdb : (x == ("__debug__" : Str)) = false := by decide) :
    PMk X (.Call (.Name x p) [] [] pos) (tMkN C sp) := by
  intro pins s σ H Q I h
  obtain ⟨nm, q, N, bs, bm, sn, sub, ab, col, dd, k0, k1, k2, k3, k5, hC, hbm⟩ := T.cls
  refine wpAny_Call_Name_kw (ld_glob I hg hm (PySem.W.callWith_K0 I.kIn T.kC ?_) hdb)
  show wpAny _ _ (call (.ref C) []) _ _ _
  obtain ⟨hp, g, dr, tk, os⟩ := s
  have hsz : hp.objs.size ≤ hp.objs.size + 1 := Nat.le_succ _
  have hn : H (hp.objs.size + 1) = none := I.hok.fresh hsz
  have hq := h (hp.objs.size + 1) hn
  have kk : ∀ b o, hp.get? b = some o → ((hp.push (PySem.W.kdv_tup [])).push (PySem.HandSPX.excO C hp.objs.size)).get? b = some o := fun b o e => Heap.get?_push_of_some _ (Heap.get?_push_of_some _ e)
  have here : ((hp.push (PySem.W.kdv_tup [])).push (PySem.HandSPX.excO C hp.objs.size)).get? (hp.objs.size + 1) = some (PySem.HandSPX.excO C hp.objs.size) := by heap_get
  have I2 : Inv X pins σ (upd H (hp.objs.size + 1) (exo (hp.objs.size + 1) C none)) ⟨(hp.push (PySem.W.kdv_tup [])).push (PySem.HandSPX.excO C hp.objs.size), g, dr, tk, os⟩ := I.laid (t' := tk) kk hsz (exo_ok here)
  have r2 : Vals [V.ref (hp.objs.size + 1)] [Value.ref (hp.objs.size + 1)] := .cons rfl .nil
  have hl : ([Value.ref (hp.objs.size + 1)] ++ ([] : List Value)).length = ps.length := (F1.len _ _ _ _ hq)
  refine wpAny_call (PySem.HandSPX.call_own F.excBase_ValueError (fun Y => PySem.HandSPX.refsVE_contains Y bm hbm) (I.kIn _ _ hC) (PySem.W.looks_findIn I.kIn iC) (fun self => PySem.W.bind_fn I.kIn self tI) (Nat.zero_le _)
    (codeAny_mono (F1.run _ X.stack _ _ ⟨[Value.ref (hp.objs.size + 1)], []⟩ [Value.ref (hp.objs.size + 1)] _ _ (fun _ _ _ => False) (hr.make C [] []) (I2.env0.make C [] []) (hb _ _ I2.kIn hl) r2 hq) fun r s' hq' => ?_))
  match r, hq' with
  | .error er, hq' => exact hx pins σ _ _ er s' I2 hq'
  | .ok (.ret u), ⟨v, H2, os2, bare2, un2, hok2, rv, ev, ea, q2⟩ =>
    subst ev
    obtain ⟨h2, g2, d2, t2, os'⟩ := s'
    obtain ⟨t0, G, J, kG, ge, hoe⟩ := mk_nod (d2 := d2) (t2 := t2) I hsz kk un2 hok2 os2 bare2 ea
    exact ⟨rv, _, _, _, ⟨G, g2, d2, t2, os'⟩, _, .ref C, none, rfl, J, kG, ge, hoe, ⟨rfl, rfl⟩, rfl, rfl, del_same, rfl, bare2, raises_own T.exC T.tyC, q2⟩
/-- isinstance(e, c), e the error that the suite holds, without fields -/
def rIsN (K : PySem.W.Frag) (cls : Value) (d : Option Addr) (a : Addr) : List V → Hp → VK → Prop := fun xs H Q => ∃ D, cls = .ref D ∧ d = none ∧ ExcC K D ∧ rIsE K D a xs H Q
theorem call_isN {a : Addr} {cls : Value} {d : Option Addr} {oe : Obj} {K : PySem.W.Frag} (eK : X.K = K) (hp : (a, oe) ∈ X.pn) (hz : Zc cls d oe) (hf : ∃ vs, oe.data = .fields vs) : CallR X (.builtin "isinstance") (rIsN K cls d a) := by
  subst eK
  intro pins s σ H xs us Q I r ⟨D, e1, e2, C, c, cv, b, e3, hcv, e, q⟩
  subst e1 e2 e3
  obtain ⟨u1, u2, rfl, r1, r2⟩ := vals2 r
  cases r1
  obtain rfl := hcv _ r2
  obtain ⟨vs, hv⟩ := hf
  have J : PySem.W.InstAt s.heap a oe D none := by
    obtain ⟨h1, h2⟩ := hz
    refine ⟨(I.pin (a, oe) (List.mem_append_left _ hp)).1, h1, ?_, ?_⟩
    · unfold PySem.W.notCls
      rw [hv]
    · rw [h2]
      trivial
  exact PySem.W.kia_one (PySem.W.handS_kitx_exc C.hg C.hk C.hs C.hd C.ha C.hn C.ht C.hm) I.kIn J e (fun z => nomatch z) fun tk => ⟨.bl b, H, I.kept (t' := tk) fun _ _ z => z, rfl, q⟩
end
end Fl
namespace Fl
open PySem PySem.Spec PyProof.Rows L2
/-- where a name of the module's top stands -/
def adr (mg : Str → Option Value) (x : Str) : Addr := match mg x with | some (.ref a) => a | _ => 0
theorem adr_of {mg : Str → Option Value} {x : Str} {a : Addr} (h : mg x = some (.ref a)) : adr mg x = a := by unfold adr; rw [h]
/-- an own error class without fields -/
structure ClsN (K : PySem.W.Frag) (mg : Str → Option Value) (x qual : Str) (st : Stmt) : Prop where
  g : mg x = some (.ref (adr mg x))
  o : OexC K (adr mg x)
  c : ExcC K (adr mg x)
  i : ∃ (fI : Addr) (fd : FuncData), PySem.W.findIn K (.ref (adr mg x)) "__init__" = some (some (.ref fI)) ∧ PySem.W.typeIn K (.ref fI) = some (.type "function") ∧ Fun K "__init__" qual st fI fd
def spIniN (K : PySem.W.Frag) (C : Addr) : Sp := fun vs H Q _ => ∃ a : Addr, vs = [.ref a] ∧ H a = some (exo a C none) ∧ Q .non H
structure MkX (P : Program) (w : World) (K : PySem.W.Frag) (mg : Str → Option Value) (base : Heap) (k : Nat) (x : Str) : Prop where
  g : mg x = some (.ref (adr mg x))
  o : OexC K (adr mg x)
  i : ∃ (fI : Addr) (fd : FuncData), PySem.W.findIn K (.ref (adr mg x)) "__init__" = some (some (.ref fI)) ∧ PySem.W.typeIn K (.ref fI) = some (.type "function") ∧ FnOk P w K mg base L2.CX0 k fI fd ["self"] (spIniN K (adr mg x)) ∧ L2.Binds K fd ["self"] []
def tRaiseN (W : WX) (C : Addr) : TS := fun _ σ H => W (.ref C) none σ H
theorem del_upd {H : Hp} {a : Addr} {u : HO} (h : H a = none) : del (upd H a u) a = H := by
  funext b
  by_cases e : b = a
  · rw [e, del_same, h]
  · rw [del_ne e, upd_ne e]
theorem ps_raiseN {X : Cx} {W : WX} {k : Nat} {x : Str} {p pos pos2 : Pos} (M : MkX X.prog X.w X.K X.mg X.base k x) (hc : X.calm = true) (hr : Room (k + 1) X.A) (tk : Takes X W) (hg : Gl X x := by rfl) (hdb : (x == ("__debug__" : Str)) = false := by decide) :
    PS X (.Raise (some (.Call (.Name x p) [] [] pos)) none pos2) (tRaiseN W (adr X.mg x)) := by
  obtain ⟨fI, fd, iC, tI, F, b⟩ := M.i
  refine ⟨fun pins s σ H D I h => (ps_raise hc tk (pmk_nod (CX := L2.CX0) M.o iC tI F hr b (fun _ _ _ _ _ _ _ z => z.elim) hg M.g hdb)).run pins s σ H D I fun a ha => ⟨a, rfl, upd_same, rfl, upd_same, ?_⟩⟩
  rw [del_upd ha]
  exact h
/-- defs that may raise -/
structure HasX (P : Program) (w : World) (K : PySem.W.Frag) (mg : Str → Option Value) (base : Heap) (k : Nat) (x : Str) (ps : List Str) (sp : Sp) : Prop where
  ex : ∃ (f : Addr) (fd : FuncData), FnOk P w K mg base (L2.CX P w) k f fd ps sp ∧ mg x = some (.ref f) ∧ PySem.W.keepIn K (.ref f) = true ∧ L2.Binds K fd ps []
abbrev bxX (P : Program) (w : World) (K : PySem.W.Frag) (mg : Str → Option Value) (base : Heap) (N : List Str) (x : Str) (st : Stmt) (f : Addr) (cdv : Value) (A : Around) (outer : List Env) (s : Shared) (H : Hp) (E : XK) : Cx :=
  cxOf (L2.CX P w) P w K mg base N x (defScope st) f cdv A outer s H E
section
variable {P : Program} {w : World} {K : PySem.W.Frag} {mg : Str → Option Value} {base : Heap}
theorem hasX_of {x : Str} {st : Stmt} {N ps : List Str} {k : Nat} {sp : Sp} (D : DefIn K mg x st) (S : FnScope N ps (defScope st))
    (hb : ∀ (kV doc pm : Value) (an : Option Addr) (cdv ct : Value) (us : List Value), us.length = ps.length → bindArgs (PySem.W.fnOf x x (defArgs st) (defBody st) (defScope st) .none kV doc pm an cdv ct) ⟨us, []⟩ = pure (ps.zip us))
    (len : ∀ vs H Q E, sp vs H Q E → vs.length = ps.length)
    (hbody : ∀ (f : Addr) (cdv : Value) (A : Around) (outer : List Env) (s : Shared) (H : Hp) (vs : List V) (Q : VK) (E : XK), Room k (A.deeper (envOfC x (defScope st) s.heap.objs.size f cdv)) → sp vs H Q E →
      ∃ t, PSs (bxX P w K mg base N x st f cdv A outer s H E) (defBody st) t ∧ t { nx := fun _ H' => Q .non H', rt := Q } (start N vs) H) : HasX P w K mg base (k + 1) x ps sp := by
  obtain ⟨f, fd, F, m⟩ := D.ex
  exact ⟨f, fd, F.okX S len fun cdv A outer s H vs Q E hr h => hbody f cdv A outer s H vs Q E hr h, m, F.kp, F.binds hb⟩
/-- the same of a def with defaults, all values written -/
theorem hasXD_of {x : Str} {st : Stmt} {N ps : List Str} {k : Nat} {sp : Sp} {dvs : List V} (D : DefInD K mg x st dvs) (S : FnScope N ps (defScope st)) (hd : dvs ≠ [])
    (hb : ∀ (T : Addr) (kV doc pm : Value) (an : Option Addr) (cdv ct : Value) (us its : List Value), us.length = ps.length → its.length = dvs.length →
      ∃ k, bindArgs (PySem.W.fnOf x x (defArgs st) (defBody st) (defScope st) (.ref T) kV doc pm an cdv ct) ⟨us, []⟩ = seqItems? (.ref T) >>= k ∧ k (some its.toArray) = pure (ps.zip (us ++ its.drop dvs.length)))
    (len : ∀ vs H Q E, sp vs H Q E → vs.length = ps.length)
    (hbody : ∀ (f : Addr) (cdv : Value) (A : Around) (outer : List Env) (s : Shared) (H : Hp) (vs : List V) (Q : VK) (E : XK), Room k (A.deeper (envOfC x (defScope st) s.heap.objs.size f cdv)) → sp vs H Q E →
      ∃ t, PSs (bxX P w K mg base N x st f cdv A outer s H E) (defBody st) t ∧ t { nx := fun _ H' => Q .non H', rt := Q } (start N vs) H) : HasX P w K mg base (k + 1) x ps sp := by
  obtain ⟨f, fd, F, m⟩ := D.ex
  obtain ⟨ds, r, b⟩ := F.binds1 ps.length dvs.length hd (by rw [Nat.sub_self, Nat.add_zero]) hb
  rw [List.drop_length] at r
  cases r
  exact ⟨f, fd, F.ok S len fun cdv A outer s H vs Q E hr h => hbody f cdv A outer s H vs Q E hr h, m, F.kp, b⟩
theorem mkX_of {x qual : Str} {st : Stmt} {k : Nat} (C : ClsN K mg x qual st) (S : FnScope ["self"] ["self"] (defScope st))
    (hb : ∀ (kV doc pm : Value) (an : Option Addr) (cdv ct : Value) (us : List Value), us.length = 1 → bindArgs (PySem.W.fnOf "__init__" qual (defArgs st) (defBody st) (defScope st) .none kV doc pm an cdv ct) ⟨us, []⟩ = pure ((["self"] : List Str).zip us))
    (hbody : ∀ (f : Addr) (cdv : Value) (A : Around) (outer : List Env) (s : Shared) (H : Hp) (a : Addr) (Q : VK) (E : XK), Room k (A.deeper (envOfC qual (defScope st) s.heap.objs.size f cdv)) → H a = some (exo a (adr mg x) none) → Q .non H →
      ∃ t, PSs (cxOf L2.CX0 P w K mg base ["self"] qual (defScope st) f cdv A outer s H E).nox (defBody st) t ∧ t { nx := fun _ H' => Q .non H', rt := Q } (start ["self"] [.ref a]) H) : MkX P w K mg base (k + 1) x := by
  obtain ⟨fI, fd, iC, tI, F⟩ := C.i
  refine ⟨C.g, C.o, fI, fd, iC, tI, F.ok S (fun vs H Q E ⟨a, e, _⟩ => by rw [e]; rfl) fun cdv A outer s H vs Q E hr ⟨a, e, h, q⟩ => ?_, F.binds hb⟩
  subst e
  exact hbody fI cdv A outer s H a Q E hr h q
end
theorem pe_hX {X : Cx} {k : Nat} {x : Str} {ps : List Str} {sp : Sp} {W : WX} {e : Expr} {es : List Expr} {t : TA} {p pos : Pos} (h : HasX X.prog X.w X.K X.mg X.base k x ps sp) (hr : Room k X.A) (tk : Takes X W) (ha : PA X (e :: es) t) (hg : Gl X x := by rfl)
    (hdb : (x == ("__debug__" : Str)) = false := by decide) (he : starEach (e :: es) X.env = (false, eval e X.env) :: starEach es X.env := by rfl) (hpl : (backTo pos (starEach es X.env)).any (·.1) = false := by rfl) :
    PE X (.Call (.Name x p) (e :: es) [] pos) (tCallS sp (WE W) t) := by
  obtain ⟨f, fd, a, b, c, d⟩ := h.ex
  exact pe_callS a hr hg b c d (fun σ => passAt tk σ) ha hdb he hpl
theorem g_callS {sp : Sp} {E : L2.St → XK} {t : TA} {σ : L2.St} {H : Hp} {Q : VK} (h : t σ H fun vs H1 => sp vs H1 Q (E σ)) : tCallS sp E t σ H Q := h
theorem g_raiseN {W : WX} {C : Addr} {D : Ends} {σ : L2.St} {H : Hp} (h : W (.ref C) none σ H) : tRaiseN W C D σ H := h
theorem g_isN {K : PySem.W.Frag} {D a : Addr} {c : V} {cv : Value} {b : Bool} {H : Hp} {Q : VK} (C : ExcC K D) (hc : ∀ u, RelV c u → u = cv) (k : PySem.W.kitOne K (.ref D) cv = some b) (q : Q (.bl b) H) : rIsN K (.ref D) none a [.ref a, c] H Q := ⟨D, rfl, rfl, C, c, cv, b, rfl, hc, k, q⟩
theorem wAs_yes {K : PySem.W.Frag} {c cls : Value} {d : Option Addr} {i : Nat} {ts : Addr → Value → Option Addr → TS} {Wout : WX} {D : Ends} {σ : L2.St} {H : Hp} (h : PySem.W.exmOne K cls c = some true)
    (k : ∀ a, H a = none → ts a cls d { nx := fun σ' H' => D.nx (σ'.set i none) H', rt := D.rt, bk := fun σ' H' => D.bk (σ'.set i none) H', ct := fun σ' H' => D.ct (σ'.set i none) H' } (σ.set i (some (.ref a))) H) : wAs K c i ts Wout D cls d σ H :=
  ⟨true, h, fun _ => k, fun z => nomatch z⟩
theorem Has.imp {P : Program} {w : World} {K : PySem.W.Frag} {mg : Str → Option Value} {base : Heap} {k : Nat} {x : Str} {ps : List Str} {sp sp' : Sp} (h : Has P w K mg base k x ps sp) (i : ∀ vs H Q E, sp' vs H Q E → sp vs H Q E) : Has P w K mg base k x ps sp' := by
  obtain ⟨f, fd, a, b⟩ := h.ex
  exact ⟨f, fd, a.imp i, b⟩
end Fl
namespace Fl
open PySem PySem.Spec PyProof.Rows L2
theorem ratq_rat {K : PySem.W.Frag} {vs : List V} {H : Hp} {Q : VK} {E : XK} (h : spRatq K vs H Q E) : spRat vs H Q E := by
  obtain ⟨p, q, rfl, hq, h1, h2, k⟩ := h
  refine ⟨p, q, rfl, hq, Nat.lt_of_lt_of_le h1 (Nat.pow_le_pow_right (by decide) (by decide)), Nat.lt_of_lt_of_le h2 (Nat.pow_le_pow_right (by decide) (by decide)), fun t ht => k t _ ht (Fl.Same.new ht) ?_⟩
  unfold RV
  rw [rp_num hq, rq_den hq]
  exact SqT.of upd_same
def spInt (K : PySem.W.Frag) : Sp := fun vs H Q _ => ∃ d : Addr, vs = [.ref d] ∧ DeckAt K H d ∧ ∀ v H', v.natAbs < 10 ^ 60 → DeckAt K H' d → Ex1 d H H' → Q (.int v) H'
theorem int_app {K : PySem.W.Frag} {d : Addr} {H : Hp} {Q : VK} {E : XK} (h : DeckAt K H d) (k : ∀ v H', v.natAbs < 10 ^ 60 → DeckAt K H' d → Ex1 d H H' → Q (.int v) H') : spInt K [.ref d] H Q E := ⟨d, rfl, h, k⟩
def spSameQ (K : PySem.W.Frag) : Sp := fun vs H Q _ => ∃ (a b : Addr) (x : Rat), vs = [.ref a, .ref b] ∧ RV K H a x ∧ RV K H b x ∧ Q (.bl true) H
theorem sameQ_app {K : PySem.W.Frag} {a b : Addr} {x : Rat} {H : Hp} {Q : VK} {E : XK} (h1 : RV K H a x) (h2 : RV K H b x) (q : Q (.bl true) H) : spSameQ K [.ref a, .ref b] H Q E := ⟨a, b, x, rfl, h1, h2, q⟩
def spRat0 (Z : Addr) : Sp := fun vs H _ E => ∃ p : Int, vs = [.int p, .int 0] ∧ E (.ref Z) none H
def spDiv0 (K : PySem.W.Frag) (Z : Addr) : Sp := fun vs H _ E => ∃ (a b : Addr) (x : Rat), vs = [.ref a, .ref b] ∧ RV K H a x ∧ Md x ∧ SqT K H b [.int 0, .int 1] ∧ E (.ref Z) none H
def spRefu (K : PySem.W.Frag) : Sp := fun vs H Q _ => ∃ (p : Int) (a : Addr) (x : Rat), vs = [.int p, .ref a] ∧ RV K H a x ∧ Md x ∧ ∀ H', Same H H' → Q (.bl true) H'
theorem refu_app {K : PySem.W.Frag} {p : Int} {a : Addr} {x : Rat} {H : Hp} {Q : VK} {E : XK} (h : RV K H a x) (m : Md x) (q : ∀ H', Same H H' → Q (.bl true) H') : spRefu K [.int p, .ref a] H Q E := ⟨p, a, x, rfl, h, m, q⟩
theorem rv_int {K : PySem.W.Frag} {H : Hp} {a : Addr} {p : Int} (h : SqT K H a [.int p, .int 1]) : RV K H a (Rat.divInt p 1) := by
  unfold RV
  have e1 : (Rat.divInt p 1).num = p := by rw [Rat.num_divInt]; simp
  have e2 : (Rat.divInt p 1).den = 1 := by rw [Rat.den_divInt]; simp
  rw [e1, e2]
  exact h
end Fl
namespace Fl
open PySem PySem.Spec PyProof.Rows L2
theorem tyT {K : PySem.W.Frag} {H : Hp} {a : Addr} {xs : List V} (h : SqT K H a xs) : TyX K H (.ref a) (.type "tuple") := by
  rcases h with (h | ⟨o, h⟩) | ⟨o, its, n, h, c, _⟩
  · exact .base (.tup h)
  · exact .fTuple h
  · exact .kTuple h c
end Fl
namespace Fl
open PySem PySem.Spec PyProof.Rows L2
theorem pe_cls {X : Cx} {x : Str} {pos : Pos} {a : Addr} (g : Gl X x) (h : X.mg x = some (.ref a)) (n : (x == ("__debug__" : Str)) = false := by decide) : PE X (.Name x pos) (tC (.ref a)) := pe_glob g h rfl n
end Fl
namespace Fl
open PySem PySem.Spec PyProof.Rows L2
theorem pe_asK {X : Cx} {e : Expr} {t t' : TE} (h : PE X e t) (q : t' = t := by rfl) : PE X e t' := by subst q; exact h
end Fl
namespace Fl
open PySem PySem.Spec PyProof.Rows L2
theorem pe_bmK {X : Cx} {K : PySem.W.Frag} {o e : Expr} {es : List Expr} {to : TE} {t : TA} {T id : String} {name : Str} {apos cpos : Pos} {r : V → List V → Hp → VK → Prop} (eK : X.K = K) (pa : PlainAttrs T) (slot : Slot T name id) (hty : typeOf (.builtin id) = pure (.type "method_descriptor")) (hm : MtR X id r) (ho : PE X o to) (ha : PA X (e :: es) t)
    (h1 : attributeBase o name X.env (eval o X.env) = eval o X.env := by rfl)
    (h2 : ((backTo cpos (starEach (e :: es) X.env)).all (fun x => !x.1) && (backToKw cpos (keywordEach [] X.env)).all (fun x => x.1.isSome) && decide ((e :: es).length + ([] : List Keyword).length + (if ([] : List Keyword).isEmpty then 0 else 1) < 30)) = true := by rfl)
    (h3 : (apos.endLine == cpos.line) = true := by rfl) (h4 : starEach (e :: es) X.env = (false, eval e X.env) :: starEach es X.env := by rfl) (h5 : (backTo cpos (starEach es X.env)).any (·.1) = false := by rfl) :
    PE X (.Call (.Attribute o name apos) (e :: es) [] cpos) (tBM K T r to t) := by
  subst eK
  exact pe_bm pa slot hty hm ho ha h1 h2 h3 h4 h5
end Fl
namespace Fl
open PySem PySem.Spec PyProof.Rows L2
theorem kit_self (K : PySem.W.Frag) (a : Addr) : PySem.W.kitOne K (.ref a) (.ref a) = some true := by
  unfold PySem.W.kitOne
  rw [if_pos (by simp)]
theorem kit_typ {K : PySem.W.Frag} {a : Addr} {T : String} {b : Bool} (h : PySem.W.subIn K (.ref a) (.type T) = some b) (m : PySem.W.kitMeta T = true) : PySem.W.kitOne K (.ref a) (.type T) = some b := by
  unfold PySem.W.kitOne
  rw [if_neg (by intro z; cases z)]
  show (if PySem.W.kitMeta T = true then PySem.W.subIn K (.ref a) (.type T) else none) = some b
  rw [if_pos m, h]
end Fl

set_option Elab.async false
set_option linter.all false
set_option maxRecDepth 100000
set_option maxHeartbeats 4000000
set_option exponentiation.threshold 20000
/-! own errors with one field, a text -/
namespace Fl
open PySem PySem.Spec PyProof.Rows L2
/-- an own error class, made with a text that it keeps as f -/
structure Cls1 (K : PySem.W.Frag) (mg : Str → Option Value) (x qual : Str) (st : Stmt) (f : Str) : Prop where
  g : mg x = some (.ref (adr mg x))
  o : OexC K (adr mg x)
  n : PySem.W.findIn K (.ref (adr mg x)) f = some none
  i : ∃ (fI : Addr) (fd : FuncData), PySem.W.findIn K (.ref (adr mg x)) "__init__" = some (some (.ref fI)) ∧ PySem.W.typeIn K (.ref fI) = some (.type "function") ∧ Fun K "__init__" qual st fI fd
def spIni1 (C : Addr) (f : Str) : Sp := fun vs H Q _ => ∃ (a : Addr) (s : Str), vs = [.ref a, .str s] ∧ s.length ≤ 1000 ∧ H a = some (exo a C none) ∧ ∀ dx, H dx = none → dx ≠ a → Q .non (upd (upd H dx (exd dx [(f, .str s)])) a (exo a C (some dx)))
structure MkX1 (P : Program) (w : World) (K : PySem.W.Frag) (mg : Str → Option Value) (base : Heap) (k : Nat) (x f : Str) (ps : List Str) : Prop where
  g : mg x = some (.ref (adr mg x))
  o : OexC K (adr mg x)
  i : ∃ (fI : Addr) (fd : FuncData), PySem.W.findIn K (.ref (adr mg x)) "__init__" = some (some (.ref fI)) ∧ PySem.W.typeIn K (.ref fI) = some (.type "function") ∧ FnOk P w K mg base L2.CX0 k fI fd ps (spIni1 (adr mg x) f) ∧ L2.Binds K fd ps []
def tRaise1 (W : WX) (C : Addr) (f : Str) (ta : TA) : TS := fun _ σ H => tMkO C (spIni1 C f) [] ta σ H fun cls d H' => W cls d σ H'
theorem ps_raise1 {X : Cx} {W : WX} {k : Nat} {x f : Str} {ps : List Str} {e : Expr} {ta : TA} {p pos pos2 : Pos} (M : MkX1 X.prog X.w X.K X.mg X.base k x f ps) (hc : X.calm = true) (hr : Room (k + 1) X.A) (tk : Takes X W) (ha : PA X [e] ta) (hg : Gl X x := by rfl) (hdb : (x == ("__debug__" : Str)) = false := by decide)
    (he : starEach [e] X.env = (false, eval e X.env) :: starEach [] X.env := by rfl) (hpl : (backTo pos (starEach [] X.env)).any (·.1) = false := by rfl) :
    PS X (.Raise (some (.Call (.Name x p) [e] [] pos)) none pos2) (tRaise1 W (adr X.mg x) f ta) := by
  obtain ⟨fI, fd, iC, tI, F, b⟩ := M.i
  exact ⟨fun pins s σ H D I h => (ps_raise hc tk (pmk_oex (CX := L2.CX0) M.o iC tI F hr b .nil (fun _ _ _ _ _ _ _ z => z.elim) hg M.g ha hdb he hpl)).run pins s σ H D I h⟩
theorem g_raise1 {W : WX} {C : Addr} {f s : Str} {D : Ends} {σ : L2.St} {H : Hp} (hs : s.length ≤ 1000) (h : ∀ dx, H dx = none → W (.ref C) (some dx) σ (upd H dx (.xd [(f, .str s)]))) : tRaise1 W C f (tCons (tC (.str s)) tNil) D σ H := by
  refine ⟨by simp, fun a ha => ⟨a, s, rfl, hs, upd_same, fun dx hd hne => ⟨rfl, dx, [(f, .str s)], upd_same, by rw [upd_ne hne, upd_same], by rw [upd_ne hne] at hd; exact hd, ?_⟩⟩⟩
  rw [upd_ne hne] at hd
  have e : upd (del (upd (upd (upd H a (exo a C none)) dx (exd dx [(f, .str s)])) a (exo a C (some dx))) a) dx (.xd [(f, .str s)]) = upd H dx (.xd [(f, .str s)]) := by
    funext b
    by_cases h1 : b = dx
    · rw [h1, upd_same, upd_same]
    · rw [upd_ne h1, upd_ne h1]
      by_cases h2 : b = a
      · rw [h2, del_same, ha]
      · rw [del_ne h2, upd_ne h2, upd_ne h1, upd_ne h2]
  rw [e]
  exact h dx hd
section
variable {P : Program} {w : World} {K : PySem.W.Frag} {mg : Str → Option Value} {base : Heap}
theorem mkX1_of {x qual f : Str} {st : Stmt} {k : Nat} {N ps : List Str} (C : Cls1 K mg x qual st f) (hps : ps.length = 2) (S : FnScope N ps (defScope st))
    (hb : ∀ (kV doc pm : Value) (an : Option Addr) (cdv ct : Value) (us : List Value), us.length = ps.length → bindArgs (PySem.W.fnOf "__init__" qual (defArgs st) (defBody st) (defScope st) .none kV doc pm an cdv ct) ⟨us, []⟩ = pure (ps.zip us))
    (hbody : ∀ (fa : Addr) (cdv : Value) (A : Around) (outer : List Env) (s : Shared) (H : Hp) (a : Addr) (y : Str) (Q : VK) (E : XK), Room k (A.deeper (envOfC qual (defScope st) s.heap.objs.size fa cdv)) → y.length ≤ 1000 → H a = some (exo a (adr mg x) none) →
      (∀ dx, H dx = none → dx ≠ a → Q .non (upd (upd H dx (exd dx [(f, .str y)])) a (exo a (adr mg x) (some dx)))) →
      ∃ t, PSs (cxOf L2.CX0 P w K mg base N qual (defScope st) fa cdv A outer s H E).nox (defBody st) t ∧ t { nx := fun _ H' => Q .non H', rt := Q } (start N [.ref a, .str y]) H) : MkX1 P w K mg base (k + 1) x f ps := by
  obtain ⟨fI, fd, iC, tI, F⟩ := C.i
  refine ⟨C.g, C.o, fI, fd, iC, tI, F.ok S (fun vs H Q E ⟨a, y, e, _⟩ => by rw [e, hps]; rfl) fun cdv A outer s H vs Q E hr ⟨a, y, e, hy, h, q⟩ => ?_, F.binds hb⟩
  subst e
  exact hbody fI cdv A outer s H a y Q E hr hy h q
end
end Fl

set_option Elab.async false
set_option linter.all false
set_option maxRecDepth 100000
set_option maxHeartbeats 4000000
set_option exponentiation.threshold 20000
/-! own errors with two fields, numbers -/
namespace Fl
open PySem PySem.Spec PyProof.Rows L2
/-- an own error class, made with two numbers that it keeps as f and g -/
structure Cls2 (K : PySem.W.Frag) (mg : Str → Option Value) (x qual : Str) (st : Stmt) (f f2 : Str) : Prop where
  g : mg x = some (.ref (adr mg x))
  o : OexC K (adr mg x)
  n : PySem.W.findIn K (.ref (adr mg x)) f = some none
  m : PySem.W.findIn K (.ref (adr mg x)) f2 = some none
  r : XfC K (adr mg x)
  i : ∃ (fI : Addr) (fd : FuncData), PySem.W.findIn K (.ref (adr mg x)) "__init__" = some (some (.ref fI)) ∧ PySem.W.typeIn K (.ref fI) = some (.type "function") ∧ Fun K "__init__" qual st fI fd
def spIni2 (C : Addr) (f f2 : Str) : Sp := fun vs H Q _ => ∃ (a : Addr) (i j : Int), vs = [.ref a, .int i, .int j] ∧ i.natAbs < 10000 ∧ j.natAbs < 10000 ∧ H a = some (exo a C none) ∧ ∀ dx, H dx = none → dx ≠ a → Q .non (upd (upd (upd H dx (exd dx [(f, .int i)])) a (exo a C (some dx))) dx (exd dx [(f2, .int j), (f, .int i)]))
structure MkX2 (P : Program) (w : World) (K : PySem.W.Frag) (mg : Str → Option Value) (base : Heap) (k : Nat) (x f f2 : Str) (ps : List Str) : Prop where
  g : mg x = some (.ref (adr mg x))
  o : OexC K (adr mg x)
  i : ∃ (fI : Addr) (fd : FuncData), PySem.W.findIn K (.ref (adr mg x)) "__init__" = some (some (.ref fI)) ∧ PySem.W.typeIn K (.ref fI) = some (.type "function") ∧ FnOk P w K mg base L2.CX0 k fI fd ps (spIni2 (adr mg x) f f2) ∧ L2.Binds K fd ps []
def tRaise2 (W : WX) (C : Addr) (f f2 : Str) (ta : TA) : TS := fun _ σ H => tMkO C (spIni2 C f f2) [] ta σ H fun cls d H' => W cls d σ H'
theorem ps_raise2 {X : Cx} {W : WX} {k : Nat} {x f f2 : Str} {ps : List Str} {e e2 : Expr} {ta : TA} {p pos pos2 : Pos} (M : MkX2 X.prog X.w X.K X.mg X.base k x f f2 ps) (hc : X.calm = true) (hr : Room (k + 1) X.A) (tk : Takes X W) (ha : PA X [e, e2] ta) (hg : Gl X x := by rfl) (hdb : (x == ("__debug__" : Str)) = false := by decide)
    (he : starEach [e, e2] X.env = (false, eval e X.env) :: starEach [e2] X.env := by rfl) (hpl : (backTo pos (starEach [e2] X.env)).any (·.1) = false := by rfl) :
    PS X (.Raise (some (.Call (.Name x p) [e, e2] [] pos)) none pos2) (tRaise2 W (adr X.mg x) f f2 ta) := by
  obtain ⟨fI, fd, iC, tI, F, b⟩ := M.i
  exact ⟨fun pins s σ H D I h => (ps_raise hc tk (pmk_oex (CX := L2.CX0) M.o iC tI F hr b .nil (fun _ _ _ _ _ _ _ z => z.elim) hg M.g ha hdb he hpl)).run pins s σ H D I h⟩
theorem g_raise2 {W : WX} {C : Addr} {f f2 : Str} {i j : Int} {D : Ends} {σ : L2.St} {H : Hp} (hi : i.natAbs < 10000) (hj : j.natAbs < 10000) (h : ∀ dx, H dx = none → W (.ref C) (some dx) σ (upd H dx (.xd [(f2, .int j), (f, .int i)]))) : tRaise2 W C f f2 (tCons (tC (.int i)) (tCons (tC (.int j)) tNil)) D σ H := by
  refine ⟨by simp, fun a ha => ⟨a, i, j, rfl, hi, hj, upd_same, fun dx hd hne => ⟨rfl, dx, [(f2, .int j), (f, .int i)], by rw [upd_ne (Ne.symm hne), upd_same], upd_same, by rw [upd_ne hne] at hd; exact hd, ?_⟩⟩⟩
  rw [upd_ne hne] at hd
  have e : upd (del (upd (upd (upd (upd H a (exo a C none)) dx (exd dx [(f, .int i)])) a (exo a C (some dx))) dx (exd dx [(f2, .int j), (f, .int i)])) a) dx (.xd [(f2, .int j), (f, .int i)]) = upd H dx (.xd [(f2, .int j), (f, .int i)]) := by
    funext b
    by_cases h1 : b = dx
    · rw [h1, upd_same, upd_same]
    · rw [upd_ne h1, upd_ne h1]
      by_cases h2 : b = a
      · rw [h2, del_same, ha]
      · rw [del_ne h2, upd_ne h1, upd_ne h2, upd_ne h1, upd_ne h2]
  rw [e]
  exact h dx hd
section
variable {P : Program} {w : World} {K : PySem.W.Frag} {mg : Str → Option Value} {base : Heap}
theorem mkX2_of {x qual f f2 : Str} {st : Stmt} {k : Nat} {N ps : List Str} (C : Cls2 K mg x qual st f f2) (hps : ps.length = 3) (S : FnScope N ps (defScope st))
    (hb : ∀ (kV doc pm : Value) (an : Option Addr) (cdv ct : Value) (us : List Value), us.length = ps.length → bindArgs (PySem.W.fnOf "__init__" qual (defArgs st) (defBody st) (defScope st) .none kV doc pm an cdv ct) ⟨us, []⟩ = pure (ps.zip us))
    (hbody : ∀ (fa : Addr) (cdv : Value) (A : Around) (outer : List Env) (s : Shared) (H : Hp) (a : Addr) (i j : Int) (Q : VK) (E : XK), Room k (A.deeper (envOfC qual (defScope st) s.heap.objs.size fa cdv)) → i.natAbs < 10000 → j.natAbs < 10000 → H a = some (exo a (adr mg x) none) →
      (∀ dx, H dx = none → dx ≠ a → Q .non (upd (upd (upd H dx (exd dx [(f, .int i)])) a (exo a (adr mg x) (some dx))) dx (exd dx [(f2, .int j), (f, .int i)]))) →
      ∃ t, PSs (cxOf L2.CX0 P w K mg base N qual (defScope st) fa cdv A outer s H E).nox (defBody st) t ∧ t { nx := fun _ H' => Q .non H', rt := Q } (start N [.ref a, .int i, .int j]) H) : MkX2 P w K mg base (k + 1) x f f2 ps := by
  obtain ⟨fI, fd, iC, tI, F⟩ := C.i
  refine ⟨C.g, C.o, fI, fd, iC, tI, F.ok S (fun vs H Q E ⟨a, i, j, e, _⟩ => by rw [e, hps]; rfl) fun cdv A outer s H vs Q E hr ⟨a, i, j, e, hi, hj, h, q⟩ => ?_, F.binds hb⟩
  subst e
  exact hbody fI cdv A outer s H a i j Q E hr hi hj h q
end
/-- the reading of a field of the caught error -/
theorem g_xf {a C dd : Addr} {fs : List (Str × V)} {v : V} {f : Str} {i : Nat} {σ : L2.St} {H : Hp} {Q : VK} (h : σ[i]? = some (some (.ref a))) (hd : H dd = some (.xd fs)) (hl : fs.lookup f = some v) (q : Q v H) : tXf a (.ref C) (some dd) C f (tVar i) σ H Q := ⟨_, h, rfl, rfl, dd, fs, v, rfl, hd, hl, q⟩
end Fl

set_option Elab.async false
set_option linter.all false
set_option maxRecDepth 100000
set_option maxHeartbeats 4000000
set_option exponentiation.threshold 20000
/-! comprehensions that draw; fractions as data; lists taken apart; sorted -/
namespace Fl
open PySem PySem.Spec PyProof.Rows L2
section
variable {S X : List Addr} {H1 : Hp} {K : PySem.W.Frag}
/-- the list D at turn i of a comprehension whose steps change what stands at X and keep I -/
structure GenAt (S X : List Addr) (I : Hp → Prop) (Pr : PyData → Prop) (H1 : Hp) (D : Addr) (i : Nat) (H : Hp) : Prop where
  ex : ∃ (acc : List V) (rs : List PyData), H D = some (.lst acc) ∧ DqA (D :: S) H acc rs ∧ rs.length = i ∧ ∀ r, r ∈ rs → Pr r
  fr : Fr (D :: X) H1 H
  inv : I H
theorem lcG {n : Nat} {lo : Int} {j : Nat} {te : TE} {vs : List Nat} {σ : L2.St} {Q : VK} (X : List Addr) (I : Hp → Prop) (Pr : PyData → Prop) (hS : Al S H1) (hX : ∀ b, b ∈ X → b ∈ S) (hI : I H1) (hz : n < 1000)
    (hA : ∀ H, I H → Al X H) (hP : ∀ D H o, H1 D = none → I H → I (upd H D o))
    (step : ∀ (D : Addr) (i : Nat) (H : Hp), H1 D = none → i < n → Al (D :: S) H → I H →
      ∀ (R : V → Hp → Prop), (∀ y H' r, Fr X H H' → I H' → Dq (D :: S) H' y r → Pr r → R y H') →
      wipe ((wipe σ vs).set j (some (.int (lo + i)))) vs = wipe σ vs ∧ te ((wipe σ vs).set j (some (.int (lo + i)))) H R)
    (q : ∀ (D : Addr) (H : Hp) (rs : List PyData), Fr X H1 H → I H → H1 D = none → Dq S H (.ref D) (.list rs) → rs.length = n → (∀ r, r ∈ rs → Pr r) → Q (.ref D) H) :
    lcK (Itr lo n) (gName j) tYes te vs σ H1 Q := by
  unfold lcK
  intro D hD
  have hDX : D ∉ X := fun m => hS D (hX D m) hD
  refine lc_range (GenAt S X I Pr H1 D) ⟨⟨[], [], upd_same, .nil, rfl, fun _ m => nomatch m⟩, Fr.same (Fl.Same.new hD), hP D H1 _ hD hI⟩ ?_ ?_
  · intro i H hlt h
    obtain ⟨⟨acc, rs, hacc, hd, hl, hp⟩, hf, hi⟩ := h
    have hAl : Al (D :: S) H := .cons (by rw [hacc]; simp) (hS.fr hf fun b m => by
      rcases List.mem_cons.mp m with rfl | m
      · rw [hacc]; simp
      · exact hA H hi b m)
    have st := step D i H hD hlt hAl hi (fun y H4 => ∃ acc, H4 D = some (.lst acc) ∧ acc.length < sizeLine ∧ GenAt S X I Pr H1 D (i + 1) (upd H4 D (.lst (acc ++ [y])))) ?_
    · exact ⟨st.1, st.2⟩
    · intro y H' r f k dq hr
      have f' : Fr (D :: S) H H' := f.mono fun b m => List.mem_cons_of_mem _ (hX b m)
      refine ⟨acc, f D _ hDX hacc, ?_, ⟨acc ++ [y], rs ++ [r], upd_same, ?_, ?_, ?_⟩, ?_, ?_⟩
      · have := hd.len
        have : (1000 : Nat) ≤ sizeLine := by decide
        omega
      · exact ((hd.fr f').app (.one dq)).fr (Fr.upd (by simp))
      · rw [List.length_append, hl]
        rfl
      · intro p m
        rcases List.mem_append.mp m with m | m
        · exact hp p m
        · rw [show p = r by simpa using m]
          exact hr
      · exact (hf.trans (f.mono fun b m => List.mem_cons_of_mem _ m)).trans (Fr.upd (by simp))
      · exact hP D H' _ hD k
  · intro H h
    obtain ⟨⟨acc, rs, hacc, hd, hl, hp⟩, hf, hi⟩ := h
    refine q D H rs (fun b o n e => hf b o (fun m => ?_) e) hi hD (.lst (hS.ni hD) hacc hd.tail) hl hp
    rcases List.mem_cons.mp m with rfl | m
    · rw [hD] at e; cases e
    · exact n m
end
/-! fractions as data -/
def iq (n : Int) : Rat := Rat.divInt n 1
def fqD (x : Rat) : PyData := .tuple [.int x.num, .int (x.den : Int)]
theorem fqE {S : List Addr} {H : Hp} {v : V} {x : Rat} (h : Dq S H v (fqD x)) : ∃ a, v = .ref a ∧ a ∉ S ∧ H a = some (.tup [.int x.num, .int (x.den : Int)]) := by
  obtain ⟨a, xs, rfl, na, hx, hd⟩ := h.tupE
  obtain ⟨_, _, rfl, h1, hd⟩ := hd.consE
  obtain ⟨_, _, rfl, h2, hd⟩ := hd.consE
  cases hd.nilE
  cases h1.intE
  cases h2.intE
  exact ⟨a, rfl, na, hx⟩
theorem fqI {S : List Addr} {H : Hp} {a : Addr} {x : Rat} (n : a ∉ S) (q : H a = some (.tup [.int x.num, .int (x.den : Int)])) : Dq S H (.ref a) (fqD x) := .tup n q (.cons (.int _) (.cons (.int _) .nil))
theorem eqf_app {K : PySem.W.Frag} {a b : Addr} {x y : Rat} {H : Hp} {Q : VK} (h1 : RV K H a x) (h2 : RV K H b y) (q : Q (.bl (decide (x = y))) H) : rEqD K (.ref a) (.ref b) H Q := by
  have d1 : ∀ {a : Addr} {x : Rat}, RV K H a x → Dp K H (.ref a) (.tuple [.int x.num, .int x.den]) := fun h => .tup h (.cons (.int _) (.cons (.int _) .nil))
  refine ⟨_, _, d1 h1, d1 h2, rfl, rfl, ?_⟩
  by_cases e : x = y
  · subst e
    have e2 : PyData.eqv (.tuple [.int x.num, .int x.den]) (.tuple [.int x.num, .int x.den]) = true := SeqAt.eqv_refl _ rfl
    rw [e2]
    simpa using q
  · have e2 : PyData.eqv (.tuple [.int x.num, .int x.den]) (.tuple [.int y.num, .int y.den]) = false := by
      cases hb : PyData.eqv (.tuple [.int x.num, .int x.den]) (.tuple [.int y.num, .int y.den]) with
      | false => rfl
      | true =>
        exfalso
        apply e
        simp [PyData.eqv, PyData.eqvAll] at hb
        exact Rat.ext hb.1 (by omega)
    rw [e2]
    simpa [e] using q
/-! [ratio(n) for n in a tuple of integers] -/
theorem lcT {K : PySem.W.Frag} {H1 : Hp} {a : Addr} {ns : List Int} {j : Nat} {te : TE} {vs : List Nat} {σ : L2.St} {Q : VK} (ha : SqT K H1 a (ns.map V.int)) (hz : ns.length < 1000)
    (step : ∀ (D : Addr) (i : Nat) (n : Int) (H : Hp), H1 D = none → ns[i]? = some n → Same H1 H →
      ∀ (R : V → Hp → Prop), (∀ t H', H t = none → Same H H' → RV K H' t (iq n) → R (.ref t) H') →
      wipe ((wipe σ vs).set j (some (.int n))) vs = wipe σ vs ∧ te ((wipe σ vs).set j (some (.int n))) H R)
    (q : ∀ (D : Addr) (H : Hp) (ts : List Addr), Same H1 H → H D = some (.lst (ts.map V.ref)) → ts.length = ns.length → (∀ (k : Nat) (t : Addr) (n : Int), ts[k]? = some t → ns[k]? = some n → RV K H t (iq n)) → Q (.ref D) H) :
    lcK (Itt K a) (gName j) tYes te vs σ H1 Q := by
  unfold lcK
  intro D hD
  refine lc_tup (xs := ns.map V.int) (fun i H => (∃ ts : List Addr, H D = some (.lst (ts.map V.ref)) ∧ ts.length = i ∧ ∀ (k : Nat) (t : Addr) (n : Int), ts[k]? = some t → ns[k]? = some n → t ≠ D ∧ RV K H t (iq n)) ∧ Fr [D] H1 H) ⟨⟨[], upd_same, rfl, fun k t n h => by simp at h⟩, Fr.same (Fl.Same.new hD)⟩ ?_ ?_ ?_
  · intro i H _ ⟨_, hf⟩
    exact Fl.Same.t (sm_of hD hf) ha
  · intro i x H hx ⟨⟨ts, hts, hl, hr⟩, hf⟩
    have hlt : i < ns.length := by
      have := (List.getElem?_eq_some_iff.mp hx).1
      simpa using this
    rw [List.getElem?_map] at hx
    cases hn : ns[i]? with
    | none => rw [hn] at hx; cases hx
    | some n =>
      rw [hn] at hx
      cases hx
      have st := step D i n H hD hn (sm_of hD hf) (fun y H4 => ∃ acc, H4 D = some (.lst acc) ∧ acc.length < sizeLine ∧ ((∃ ts : List Addr, (upd H4 D (.lst (acc ++ [y]))) D = some (.lst (ts.map V.ref)) ∧ ts.length = i + 1 ∧ ∀ (k : Nat) (t : Addr) (n : Int), ts[k]? = some t → ns[k]? = some n → t ≠ D ∧ RV K (upd H4 D (.lst (acc ++ [y]))) t (iq n)) ∧ Fr [D] H1 (upd H4 D (.lst (acc ++ [y]))))) ?_
      · exact ⟨st.1, st.2⟩
      · intro t H' ht sm rv
        have htD : t ≠ D := fun e => by rw [e, hts] at ht; cases ht
        refine ⟨ts.map V.ref, sm _ _ hts, ?_, ⟨ts ++ [t], ?_, ?_, ?_⟩, ?_⟩
        · have : (1000 : Nat) ≤ sizeLine := by decide
          rw [List.length_map]
          omega
        · rw [upd_same, List.map_append]
          rfl
        · rw [List.length_append, hl]
          rfl
        · intro k u m hk hm
          by_cases hki : k < ts.length
          · rw [List.getElem?_append_left hki] at hk
            obtain ⟨g1, g2⟩ := hr k u m hk hm
            exact ⟨g1, RV.ex1 Ex1.upd g1 (g2.same sm)⟩
          · rw [List.getElem?_append_right (by omega)] at hk
            have hk0 : k - ts.length = 0 := by
              have := (List.getElem?_eq_some_iff.mp hk).1
              simp at this
              omega
            rw [hk0] at hk
            cases hk
            have : k = i := by omega
            rw [this, hn] at hm
            cases hm
            exact ⟨htD, RV.ex1 Ex1.upd htD rv⟩
        · exact (hf.trans (Fr.same sm)).trans (Fr.upd (by simp))
  · intro H ⟨⟨ts, hts, hl, hr⟩, hf⟩
    rw [List.length_map] at hl
    exact q D H ts (sm_of hD hf) hts hl (fun k t n h1 h2 => (hr k t n h1 h2).2)
/-! a, b, .. = a list -/
theorem pgL {X : Cx} {K : PySem.W.Frag} {es : List Expr} {j : Nat} {t : TGs} {n : Nat} {pos : Pos} (e : X.K = K) (hc : X.calm = true) (h : PGs X es t)
    (hn : (assignEach es X.env).length = n := by rfl) (hst : (assignEach es X.env).findIdx? (·.1) = none := by rfl) : PG X (.Tuple es j pos) (gLst K n t) := by subst e; exact pg_lst hc h hn hst
theorem g_glst {K : PySem.W.Frag} {n : Nat} {t : TGs} {a : Addr} {xs : List V} {σ : L2.St} {H : Hp} {Q : L2.St → Hp → Prop} (h : SqL K H a xs) (e : xs.length = n) (q : t xs σ H Q) : gLst K n t (.ref a) σ H Q := ⟨a, xs, rfl, h, e, q⟩
/-! sorted of a few integers -/
theorem clSort {X : Cx} {K : PySem.W.Frag} (e : X.K = K) : CallR X (.builtin "sorted") (rSorted K) := by subst e; exact cr_sorted
theorem g_sort {K : PySem.W.Frag} {a : Addr} {ns : List Int} {H : Hp} {Q : VK} (h : SqL K H a (ns.map V.int)) (hz : ns.length < 64) (q : ∀ (ns' : List Int) (p : Addr), ns'.Perm ns → ns'.Pairwise (· ≤ ·) → H p = none → Q (.ref p) (upd H p (.lst (ns'.map V.int)))) : rSorted K [.ref a] H Q := ⟨a, ns, rfl, h, hz, q⟩
theorem sort3 {ns : List Int} {a b c lo hi : Int} (hp : ns.Perm [a, b, c]) (hs : ns.Pairwise (· ≤ ·)) (ha : lo ≤ a ∧ a ≤ hi) (hb : lo ≤ b ∧ b ≤ hi) (hc : lo ≤ c ∧ c ≤ hi) : ∃ x y z, ns = [x, y, z] ∧ lo ≤ x ∧ x ≤ y ∧ y ≤ z ∧ z ≤ hi := by
  have hl := hp.length_eq
  match ns, hl with
  | [x, y, z], _ =>
    have hx : ∀ v, v ∈ [x, y, z] → lo ≤ v ∧ v ≤ hi := fun v m => by
      have := hp.mem_iff.mp m
      simp at this
      rcases this with rfl | rfl | rfl <;> assumption
    have h1 := hx x (by simp)
    have h3 := hx z (by simp)
    simp at hs
    exact ⟨x, y, z, rfl, h1.1, hs.1.1, hs.2, h3.2⟩
end Fl

set_option Elab.async false
set_option linter.all false
set_option maxRecDepth 100000
set_option maxHeartbeats 4000000
set_option exponentiation.threshold 20000
/-! objects of the program's own classes: made with named parameters, their fields set and read -/
namespace Fl
open PySem PySem.Spec PyProof.Rows L2

/-! ### parameters put in order -/
def pick {α : Type} (is : List Nat) (l : List α) : List α := is.filterMap fun i => l[i]?
theorem Vals.getO : ∀ {vs : List V} {us : List Value} (h : Vals vs us) (i : Nat), (∃ v u, vs[i]? = some v ∧ us[i]? = some u ∧ RelV v u) ∨ (vs[i]? = none ∧ us[i]? = none)
  | _, _, .nil, i => .inr ⟨by simp, by simp⟩
  | _, _, .cons h r, 0 => .inl ⟨_, _, rfl, rfl, h⟩
  | _, _, .cons h r, i + 1 => by
    rcases Vals.getO r i with ⟨v, u, a, b, c⟩ | ⟨a, b⟩
    · exact .inl ⟨v, u, by simpa using a, by simpa using b, c⟩
    · exact .inr ⟨by simpa using a, by simpa using b⟩
theorem Vals.pick {vs : List V} {us : List Value} (h : Vals vs us) : ∀ is : List Nat, Vals (Fl.pick is vs) (Fl.pick is us)
  | [] => .nil
  | i :: is => by
    unfold Fl.pick
    rw [List.filterMap_cons, List.filterMap_cons]
    rcases Vals.getO h i with ⟨v, u, a, b, c⟩ | ⟨a, b⟩
    · rw [a, b]
      exact .cons c (Vals.pick h is)
    · rw [a, b]
      exact Vals.pick h is
theorem Vals.app : ∀ {vs : List V} {us : List Value} {ws : List V} {zs : List Value}, Vals vs us → Vals ws zs → Vals (vs ++ ws) (us ++ zs)
  | _, _, _, _, .nil, k => k
  | _, _, _, _, .cons h r, k => .cons h (Vals.app r k)

/-! ### classes -/
/-- a class without bases whose __init__ has named parameters with defaults -/
structure ClsI (K : PySem.W.Frag) (mg : Str → Option Value) (x qual : Str) (st : Stmt) (fs : List Str) (kws : List (Str × V)) : Prop where
  g : mg x = some (.ref (adr mg x))
  cl : Cls K (adr mg x)
  na : ∀ f, f ∈ fs → NoAttr K (adr mg x) f
  mi : ∃ (f : Addr) (fd : FuncData), Mk K (adr mg x) f ∧ FunD K "__init__" qual (defArgs st) (defBody st) (defScope st) [] kws f fd
/-- the class can be called with n values and the names ks -/
structure MkI (P : Program) (w : World) (K : PySem.W.Frag) (mg : Str → Option Value) (base : Heap) (k : Nat) (x : Str) (n : Nat) (ks : List Str) (gV : List V → List V → List V) (sp : Sp) : Prop where
  ex : ∃ (f : Addr) (fd : FuncData) (ps : List Str) (g : List Value → List Value → List Value), mg x = some (.ref (adr mg x)) ∧ Mk K (adr mg x) f ∧ FnOk P w K mg base L2.CX0 k f fd ps sp ∧ KBn K fd ps (n + 1) ks g gV
theorem MkI.mono {P : Program} {w : World} {K : PySem.W.Frag} {mg : Str → Option Value} {base : Heap} {j k : Nat} {x : Str} {n : Nat} {ks : List Str} {gV : List V → List V → List V} {sp : Sp} (h : MkI P w K mg base j x n ks gV sp) (e : j ≤ k) : MkI P w K mg base k x n ks gV sp := by
  obtain ⟨f, fd, ps, g, a, b, c, d⟩ := h.ex
  exact ⟨f, fd, ps, g, a, b, c.mono e, d⟩
/-- an __init__'s promise -/
structure InI (P : Program) (w : World) (K : PySem.W.Frag) (mg : Str → Option Value) (base : Heap) (k : Nat) (x qual : Str) (st : Stmt) (fs : List Str) (kws : List (Str × V)) (ps : List Str) (sp : Sp) : Prop where
  ex : ∃ (f : Addr) (fd : FuncData), mg x = some (.ref (adr mg x)) ∧ Mk K (adr mg x) f ∧ FunD K "__init__" qual (defArgs st) (defBody st) (defScope st) [] kws f fd ∧ FnOk P w K mg base L2.CX0 k f fd ps sp
section
variable {P : Program} {w : World} {K : PySem.W.Frag} {mg : Str → Option Value} {base : Heap}
theorem inI_of {x qual : Str} {st : Stmt} {fs : List Str} {kws : List (Str × V)} {N ps : List Str} {k : Nat} {sp : Sp} (D : ClsI K mg x qual st fs kws) (S : FnScope N ps (defScope st))
    (len : ∀ vs H Q E, sp vs H Q E → vs.length = ps.length)
    (hbody : ∀ (f : Addr) (cdv : Value) (A : Around) (outer : List Env) (s : Shared) (H : Hp) (vs : List V) (Q : VK) (E : XK), Room k (A.deeper (envOfC qual (defScope st) s.heap.objs.size f cdv)) → sp vs H Q E →
      ∃ t, PSs (bx P w K mg base N qual st f cdv A outer s H E) (defBody st) t ∧ t { nx := fun _ H' => Q .non H', rt := Q } (start N vs) H) : InI P w K mg base (k + 1) x qual st fs kws ps sp := by
  obtain ⟨f, fd, M, F⟩ := D.mi
  refine ⟨f, fd, D.g, M, F, F.ok S len fun cdv A outer s H vs Q E hr h => ?_⟩
  obtain ⟨t, ht, q⟩ := hbody f cdv A outer s H vs Q E hr h
  exact ⟨t, ht.nox, q⟩
/-- the calls with n values and the names ks; ms stand by default; is: where each parameter stands in values, defaults, named ones -/
theorem InI.make {x qual : Str} {st : Stmt} {fs : List Str} {kws : List (Str × V)} {ps : List Str} {k : Nat} {sp : Sp} (D : InI P w K mg base k x qual st fs kws ps sp) (n : Nat) (ks : List Str) (ms : List (Str × V)) (is : List Nat) (hk : kws ≠ [])
    (hm : ∀ q, q ∈ ms → q ∈ kws)
    (hb : ∀ (D : Addr) (doc pm : Value) (an : Option Addr) (cdv ct : Value) (us mv ws : List Value), us.length = n + 1 → mv.length = ms.length → ws.length = ks.length →
      KwChain D ((ms.map (fun x => x.fst)).zip mv) (bindArgs (PySem.W.fnOf "__init__" qual (defArgs st) (defBody st) (defScope st) .none (.ref D) doc pm an cdv ct) ⟨us, ks.zip ws⟩) (ps.zip (pick is (us ++ (mv ++ ws))))) :
    MkI P w K mg base k x n ks (fun vs zs => pick is (vs ++ (ms.map (fun x => x.snd) ++ zs))) sp := by
  obtain ⟨f, fd, a, M, F, G⟩ := D.ex
  obtain ⟨mv, b⟩ := F.kbinds0 (n + 1) ks ms (fun {α} us mv ws => pick is (us ++ (mv ++ ws))) hk hm (fun h1 h2 h3 => Vals.pick (Vals.app h1 (Vals.app h2 h3)) is) hb
  exact ⟨f, fd, ps, _, a, M, G, b⟩
end
theorem pe_mk {X : Cx} {mg : Str → Option Value} {k n : Nat} {x : Str} {ks : List Str} {sp : Sp} {gV : List V → List V → List V} {e : Expr} {es : List Expr} {kws : List Keyword} {t tk : TA} {p pos : Pos} (em : X.mg = mg) (h : MkI X.prog X.w X.K X.mg X.base k x n ks gV sp) (hr : Room (k + 1) X.A) (ha : PA X (e :: es) t) (hk : PK X kws tk) (hg : Gl X x := by rfl)
    (h1 : ((backToKw pos (keywordEach kws X.env)).all fun x => x.fst.isSome) = true := by rfl) (h2 : List.filterMap (fun x => x.fst) (backToKw pos (keywordEach kws X.env)) = ks := by rfl)
    (hdb : (x == ("__debug__" : Str)) = false := by decide) (he : starEach (e :: es) X.env = (false, eval e X.env) :: starEach es X.env := by rfl)
    (hpl : (((backTo pos (starEach (e :: es) X.env)).any fun x => x.fst) || (backToKw pos (keywordEach kws X.env)).any fun x => x.fst.isNone) = false := by rfl) :
    PE X (.Call (.Name x p) (e :: es) kws pos) (tMakeK (adr mg x) n ks.length sp gV E0 t tk) := by
  subst em
  obtain ⟨f, fd, ps, g, a, b, c, d⟩ := h.ex
  exact pe_makeK b c hr hg a d pass0 ha hk h1 h2 hdb he hpl

/-! ### walked things of two kinds -/
def iOr (t1 t2 : TI) : TI := fun σ H R => t1 σ H R ∨ t2 σ H R
theorem piOr {X : Cx} {tg l : Expr} {t1 t2 : TI} (h1 : PI X tg l t1) (h2 : PI X tg l t2) : PI X tg l (iOr t1 t2) := ⟨fun pins s σ H R I h => h.elim (h1.run pins s σ H R I) (h2.run pins s σ H R I)⟩
theorem piS {X : Cx} {K : PySem.W.Frag} {l tg : Expr} {tl : TE} (e : X.K = K) (h : PE X l tl) : PI X tg l (iOr (iList K tl) (iTup K tl)) := piOr (piL e h) (piT e h)
section
variable {X : Cx} {K : PySem.W.Frag}
def rTupOf (K : PySem.W.Frag) : List V → Hp → VK → Prop := fun xs H Q => ∃ p ys, xs = [V.ref p] ∧ ((SqL K H p ys ∧ ∀ l, H l = none → Q (.ref l) (upd H l (.tup ys))) ∨ SqT K H p ys ∧ Q (.ref p) H)
theorem clTupOf (e : X.K = K) : CallR X (.type "tuple") (rTupOf K) := by subst e; exact call_tuple_of
def rLstOf (K : PySem.W.Frag) : List V → Hp → VK → Prop := fun xs H Q => ∃ p ys, xs = [V.ref p] ∧ (SqL K H p ys ∨ SqT K H p ys) ∧ ∀ l, H l = none → Q (.ref l) (upd H l (.lst ys))
theorem clLstOf (e : X.K = K) : CallR X (.type "list") (rLstOf K) := by subst e; exact call_list_of
/-- o.f = e, within a written part of its own -/
theorem psFld {o value : Expr} {f : Str} {pos pos' : Pos} {ta tv : TE} (e : X.K = K) (h1 : PE X o ta) (h2 : PE X value tv) (hs : swapsWith value (some (o.Attribute f pos')) pos.line X.env = pure false) : PS X (.Assign [o.Attribute f pos'] value pos) (sFld K ta tv f) := by subst e; exact ps_fld h1 h2 hs
theorem peFld {o : Expr} {f : Str} {pos : Pos} {ta : TE} (e : X.K = K) (h : PE X o ta) (hb : attributeBase o f X.env (eval o X.env) = eval o X.env) : PE X (o.Attribute f pos) (tFld K ta f) := by subst e; exact pe_fld h hb
end

/-! ### data of objects -/
def encF (p : Str × PyData) : PyData × PyData := (.str p.1, p.2)
def insD (C : Addr) (fs : List (Str × PyData)) : PyData := .dict ((.none, .int (C : Int)) :: fs.map encF)
inductive DqN (S : List Addr) (H : Hp) : List (Str × V) → List (Str × PyData) → Prop
  | nil : DqN S H [] []
  | cons {n : Str} {v : V} {d : PyData} {fs : List (Str × V)} {ds : List (Str × PyData)} : Dq S H v d → DqN S H fs ds → DqN S H ((n, v) :: fs) ((n, d) :: ds)
section
variable {S T : List Addr} {H H' : Hp} {fs gs : List (Str × V)} {ds es : List (Str × PyData)} {v : V} {d : PyData} {n : Str}
theorem DqN.enc : ∀ {fs : List (Str × V)} {ds : List (Str × PyData)}, DqN S H fs ds → DqF S H fs (ds.map encF)
  | _, _, .nil => .nil
  | _, _, .cons h r => .cons h (DqN.enc r)
theorem DqF.dec : ∀ {fs : List (Str × V)} {ds : List (Str × PyData)}, DqF S H fs (ds.map encF) → DqN S H fs ds
  | _, [], h => by cases h; exact .nil
  | _, (n, d) :: ds, h => by
    cases h with
    | cons h r => exact .cons h (DqF.dec r)
theorem DqN.app : ∀ {fs gs : List (Str × V)} {ds es : List (Str × PyData)}, DqN S H fs ds → DqN S H gs es → DqN S H (fs ++ gs) (ds ++ es)
  | _, _, _, _, .nil, k => k
  | _, _, _, _, .cons h r, k => .cons h (DqN.app r k)
theorem DqN.fr : ∀ {fs : List (Str × V)} {ds : List (Str × PyData)}, DqN S H fs ds → Fr S H H' → DqN S H' fs ds
  | _, _, .nil, _ => .nil
  | _, _, .cons h r, e => .cons (h.fr e) (DqN.fr r e)
theorem DqN.mono : ∀ {fs : List (Str × V)} {ds : List (Str × PyData)}, DqN S H fs ds → (∀ a, a ∈ T → a ∈ S) → DqN T H fs ds
  | _, _, .nil, _ => .nil
  | _, _, .cons h r, e => .cons (h.mono e) (DqN.mono r e)
theorem DqN.names : ∀ {fs : List (Str × V)} {ds : List (Str × PyData)}, DqN S H fs ds → fs.map Prod.fst = ds.map Prod.fst
  | _, _, .nil => rfl
  | _, _, .cons h r => by rw [List.map_cons, List.map_cons, DqN.names r]
theorem DqN.look : ∀ {fs : List (Str × V)} {ds : List (Str × PyData)} {d : PyData}, DqN S H fs ds → ds.lookup n = some d → ∃ v, fs.lookup n = some v ∧ Dq S H v d
  | _, _, _, .nil, e => by simp at e
  | _, _, d, .cons (n := m) h r, e => by
    rw [List.lookup_cons] at e ⊢
    cases hb : n == m with
    | true => rw [hb] at e; cases e; exact ⟨_, rfl, h⟩
    | false => rw [hb] at e; exact DqN.look r e
theorem Dq.insE {C : Addr} (h : Dq S H v (insD C ds)) : ∃ a dx fs, v = .ref a ∧ a ∉ S ∧ H a = some (.ins C dx fs) ∧ DqN S H fs ds := by
  unfold insD at h
  generalize e : (C : Int) = c at h
  cases h with
  | ins n q r =>
    rename_i C' dx fs
    have : C = C' := by exact_mod_cast e
    subst this
    exact ⟨_, _, _, rfl, n, q, DqF.dec r⟩
theorem Dq.insI {C a dx : Addr} (n : a ∉ S) (q : H a = some (.ins C dx fs)) (r : DqN S H fs ds) : Dq S H (.ref a) (insD C ds) := .ins n q r.enc
end
/-- an empty tuple of the written part: a default -/
def EmT (K : PySem.W.Frag) (a : Addr) : Prop := ∃ o its n, K.lookup a = some o ∧ o.cls = .type "tuple" ∧ o.data = .seq its n ∧ its.size ≤ sizeLine ∧ Vals [] its.toList
theorem EmT.sq {K : PySem.W.Frag} {a : Addr} (h : EmT K a) (H : Hp) : SqT K H a [] := .inr h
/-- what may be handed to a maker: data, or a default () -/
def De (K : PySem.W.Frag) (S : List Addr) (H : Hp) (v : V) (d : PyData) : Prop := Dq S H v d ∨ (d = .tuple [] ∧ ∃ a, v = .ref a ∧ EmT K a)
inductive DeA (K : PySem.W.Frag) (S : List Addr) (H : Hp) : List V → List PyData → Prop
  | nil : DeA K S H [] []
  | cons {v : V} {vs : List V} {d : PyData} {ds : List PyData} : De K S H v d → DeA K S H vs ds → DeA K S H (v :: vs) (d :: ds)
section
variable {K : PySem.W.Frag} {S T : List Addr} {H H' : Hp} {v : V} {d : PyData} {vs : List V} {ds : List PyData}
theorem De.fr (h : De K S H v d) (e : Fr S H H') : De K S H' v d := h.imp (fun h => h.fr e) id
theorem De.mono (h : De K S H v d) (k : ∀ a, a ∈ T → a ∈ S) : De K T H v d := h.imp (fun h => h.mono k) id
theorem De.new {p : Addr} (h : De K S H v d) (e : H p = none) : De K (p :: S) H v d := h.imp (fun h => h.new e) id
theorem DeA.fr : ∀ {vs : List V} {ds : List PyData}, DeA K S H vs ds → Fr S H H' → DeA K S H' vs ds
  | _, _, .nil, _ => .nil
  | _, _, .cons h r, e => .cons (h.fr e) (DeA.fr r e)
theorem DeA.new {p : Addr} : ∀ {vs : List V} {ds : List PyData}, DeA K S H vs ds → H p = none → DeA K (p :: S) H vs ds
  | _, _, .nil, _ => .nil
  | _, _, .cons h r, e => .cons (h.new e) (DeA.new r e)
theorem DeA.consE (h : DeA K S H vs (d :: ds)) : ∃ v ws, vs = v :: ws ∧ De K S H v d ∧ DeA K S H ws ds := by
  cases h with
  | cons h r => exact ⟨_, _, rfl, h, r⟩
theorem DeA.nilE (h : DeA K S H vs []) : vs = [] := by cases h; rfl
theorem De.lst {xs : List PyData} (h : De K S H v (.list xs)) : Dq S H v (.list xs) := by
  rcases h with h | ⟨e, _⟩
  · exact h
  · cases e
theorem De.ofDq (h : Dq S H v d) : De K S H v d := .inl h
end
/-- the items of a list or a tuple -/
def sqI : PyData → Option (List PyData)
  | .list xs => some xs
  | .tuple xs => some xs
  | _ => none
theorem De.seq {K : PySem.W.Frag} {S : List Addr} {H : Hp} {v : V} {d : PyData} {xs : List PyData} (h : De K S H v d) (e : sqI d = some xs) :
    ∃ a vs, v = .ref a ∧ DqA S H vs xs ∧ (∀ H', Fr S H H' → SqL K H' a vs) ∨ (∃ a vs, v = .ref a ∧ DqA S H vs xs ∧ (∀ H', Fr S H H' → SqT K H' a vs)) := by
  rcases h with h | ⟨rfl, a, rfl, m⟩
  · cases h with
    | lst n q r => cases e; exact ⟨_, _, .inl ⟨rfl, r, fun H' f => SqL.of (f _ _ n q)⟩⟩
    | tup n q r => cases e; exact ⟨0, [], .inr ⟨_, _, rfl, r, fun H' f => SqT.of (f _ _ n q)⟩⟩
    | _ => cases e
  · cases e
    exact ⟨0, [], .inr ⟨a, [], rfl, .nil, fun H' f => m.sq H'⟩⟩
/-- a function of what may be handed to a maker -/
def spE (K : PySem.W.Frag) (f : List PyData → PyData → Prop) : Sp := fun vs H Q _ => ∃ S ds d, Al S H ∧ DeA K S H vs ds ∧ f ds d ∧ ∀ v H', Same H H' → Dq S H' v d → Q v H'
theorem spE_app {K : PySem.W.Frag} {f : List PyData → PyData → Prop} {vs : List V} {H : Hp} {Q : VK} {E : XK} (S : List Addr) (ds : List PyData) (d : PyData) (hS : Al S H) (hd : DeA K S H vs ds) (hf : f ds d) (q : ∀ v H', Same H H' → Dq S H' v d → Q v H') : spE K f vs H Q E :=
  ⟨S, ds, d, hS, hd, hf, q⟩
/-- an __init__: the new object's fields -/
def spI (K : PySem.W.Frag) (C : Addr) (f : List PyData → List (Str × PyData) → Prop) : Sp := fun vs H Q _ =>
  ∃ S x dx ws ds fs, vs = .ref x :: ws ∧ x ∈ S ∧ Al S H ∧ H x = some (.ins C dx []) ∧ DeA K S H ws ds ∧ f ds fs ∧ ∀ H' gs, Fr [x] H H' → H' x = some (.ins C dx gs) → DqN S H' gs fs → Q .non H'
theorem mk_app {K : PySem.W.Frag} {C : Addr} {f : List PyData → List (Str × PyData) → Prop} {ws : List V} {H : Hp} {Z : Addr → Hp → Prop} {E : XK} {gl : Addr → List V} (S : List Addr) (ds : List PyData) (fs : List (Str × PyData)) (hg : ∀ x, gl x = .ref x :: ws) (hS : Al S H) (hd : DeA K S H ws ds) (hf : f ds fs)
    (q : ∀ x H', Same H H' → Dq S H' (.ref x) (insD C fs) → Z x H') :
    ∀ x dx, H x = none → H dx = none → dx ≠ x → spI K C f (gl x) (upd (upd H dx (.own x)) x (.ins C dx [])) (fun v H3 => v = .non ∧ Z x H3) E := by
  intro x dx h1 h2 h3
  have s1 : Same H (upd H dx (.own x)) := Fl.Same.new h2
  have h1' : upd H dx (.own x) x = none := by rw [upd_ne (Ne.symm h3)]; exact h1
  have s2 : Same H (upd (upd H dx (.own x)) x (.ins C dx [])) := L2.Same.trans s1 (Fl.Same.new h1')
  have al : Al (x :: S) (upd (upd H dx (.own x)) x (.ins C dx [])) := .cons (by rw [upd_same]; simp) (hS.same s2)
  rw [hg]
  refine ⟨x :: S, x, dx, ws, ds, fs, rfl, by simp, al, upd_same, (hd.new h1).fr (Fr.same s2), hf, fun H' gs f' e n => ⟨rfl, ?_⟩⟩
  have sm : Same H H' := fun a o e2 => f' a o (by simp; intro z; rw [z, h1] at e2; cases e2) (s2 a o e2)
  exact q x H' sm (Dq.insI (hS.ni h1) e (n.mono fun a m => List.mem_cons_of_mem _ m))

/-! ### comprehensions over tuples -/
section
variable {S : List Addr} {H1 : Hp} {K : PySem.W.Frag} {g : TG} {tt : TT} {te : TE} {vs : List Nat} {σ : L2.St} {Q : VK}
theorem lc_tupP {a : Addr} {xs : List V} {D : Addr} {Qd : Hp → Prop} (Pv : Nat → Hp → Prop) (h0 : Pv 0 (upd H1 D (.lst [])))
    (hl : ∀ i H, i ≤ xs.length → Pv i H → SqT K H a xs)
    (hs : ∀ i x H, xs[i]? = some x → Pv i H → g x (wipe σ vs) H fun σ2 H2 => wipe σ2 vs = wipe σ vs ∧ tt σ2 H2 fun b H3 =>
        if b = true then te σ2 H3 fun y H4 => ∃ acc, H4 D = some (.lst acc) ∧ acc.length < sizeLine ∧ Pv (i + 1) (upd H4 D (.lst (acc ++ [y]))) else Pv (i + 1) H3)
    (hd : ∀ H, Pv xs.length H → Qd H) :
    ∃ W : Nat → Nat → Hp → Prop, (∃ m, W 0 m (upd H1 D (.lst []))) ∧ ∀ i m H, W i m H →
      ((Itt K a).stop i H ∧ Qd H) ∨ ((Itt K a).go i H ∧ ∃ Nx : Hp → Prop, (∀ H', Nx H' → ∃ m', m' < m ∧ W (i + 1) m' H') ∧
        ∀ x H', (Itt K a).yld i H x H' → g x (wipe σ vs) H' fun σ2 H2 => wipe σ2 vs = wipe σ vs ∧ tt σ2 H2 fun b H3 =>
          if b = true then te σ2 H3 fun y H4 => ∃ acc, H4 D = some (.lst acc) ∧ acc.length < sizeLine ∧ Nx (upd H4 D (.lst (acc ++ [y]))) else Nx H3) := by
  refine ⟨fun i m H => m = xs.length - i ∧ i ≤ xs.length ∧ Pv i H, ⟨xs.length, rfl, Nat.zero_le _, h0⟩, fun i m H h => ?_⟩
  obtain ⟨rfl, hi, p⟩ := h
  have q := hl i H hi p
  by_cases hlt : i < xs.length
  · refine .inr ⟨⟨xs, xs[i], q, by simp [hlt]⟩, Pv (i + 1), fun H' p' => ⟨xs.length - (i + 1), by omega, rfl, hlt, p'⟩, fun x H' y => ?_⟩
    obtain ⟨rfl, y⟩ := y
    exact hs i x H' (y xs q) p
  · have e : i = xs.length := by omega
    subst e
    exact .inl ⟨⟨xs, q, Nat.le_refl _⟩, hd H p⟩
/-- [elt for x in t if test], t a list or a tuple; nothing changed -/
theorem lcS {wi : TE} {v : V} {d : PyData} {es : List PyData} (f : Nat → Option PyData) (hS : Al S H1) (ha : De K S H1 v d) (he : sqI d = some es) (hz : es.length < 1000)
    (hv : ∀ R : VK, R v H1 → wi σ H1 R)
    (step : ∀ (D : Addr) (i : Nat) (x : V) (e : PyData) (H : Hp), H1 D = none → es[i]? = some e → Same H1 H → Al (D :: S) H → Dq (D :: S) H x e →
      ∀ (R : V → Hp → Prop) (N : Hp → Prop), (∀ r y H4, f i = some r → Same H H4 → Dq (D :: S) H4 y r → R y H4) → (f i = none → ∀ H4, Same H H4 → N H4) →
      g x (wipe σ vs) H fun σ2 H2 => wipe σ2 vs = wipe σ vs ∧ tt σ2 H2 fun b H3 => if b = true then te σ2 H3 R else N H3)
    (q : ∀ (D : Addr) (H : Hp), Same H1 H → H1 D = none → Dq S H (.ref D) (.list ((List.range es.length).filterMap f)) → Q (.ref D) H) :
    iOr (iList K wi) (iTup K wi) σ H1 fun J H1 => lcK J g tt te vs σ H1 Q := by
  obtain ⟨a, xs, h | h⟩ := ha.seq he
  · obtain ⟨rfl, hall, hsq⟩ := h
    refine .inl (hv _ ⟨a, rfl, ⟨xs, hsq H1 Fr.refl⟩, ?_⟩)
    unfold lcK
    intro D hD
    have hlx := hall.len
    have hfr : ∀ H, Fr [D] H1 H → Fr S H1 H := fun H f b o n e => f b o (by simp; intro z; rw [z, hD] at e; cases e) e
    refine lc_list (xs := xs) (CompAt S H1 D f) (CompAt.zero hD) (fun i H _ h => hsq H (hfr H h.fr)) ?_ ?_
    · intro i x H hx h
      have hlt : i < xs.length := (List.getElem?_eq_some_iff.mp hx).1
      have hsm : Same H1 H := sm_of hD h.fr
      obtain ⟨e, he, hxe⟩ := ((hall.new hD).same hsm).get hx
      exact step D i x e H hD he hsm (h.al hS hD) hxe _ _ (fun r y H4 er s d => h.put (by omega) er s d) fun en H4 s => (h.same s).skip en
    · intro H h
      rw [hlx] at h
      exact q D H (sm_of hD h.fr) hD (h.fin hS hD)
  · obtain ⟨a, xs, rfl, hall, hsq⟩ := h
    refine .inr (hv _ ⟨a, rfl, ⟨xs, hsq H1 Fr.refl⟩, ?_⟩)
    unfold lcK
    intro D hD
    have hlx := hall.len
    have hfr : ∀ H, Fr [D] H1 H → Fr S H1 H := fun H f b o n e => f b o (by simp; intro z; rw [z, hD] at e; cases e) e
    refine lc_tupP (xs := xs) (CompAt S H1 D f) (CompAt.zero hD) (fun i H _ h => hsq H (hfr H h.fr)) ?_ ?_
    · intro i x H hx h
      have hlt : i < xs.length := (List.getElem?_eq_some_iff.mp hx).1
      have hsm : Same H1 H := sm_of hD h.fr
      obtain ⟨e, he, hxe⟩ := ((hall.new hD).same hsm).get hx
      exact step D i x e H hD he hsm (h.al hS hD) hxe _ _ (fun r y H4 er s d => h.put (by omega) er s d) fun en H4 s => (h.same s).skip en
    · intro H h
      rw [hlx] at h
      exact q D H (sm_of hD h.fr) hD (h.fin hS hD)
end
end Fl

set_option Elab.async false
set_option linter.all false
set_option maxRecDepth 100000
set_option maxHeartbeats 4000000
set_option exponentiation.threshold 20000
/-! what fonts consist of -/
namespace Fl
open PySem PySem.Spec PyProof.Rows L2
/-! ### readings of fields -/
section
variable {K : PySem.W.Frag} {σ : L2.St} {H : Hp} {Q : VK} {ta tv : TE} {f : Str} {D : Ends} {a C dx : Addr} {fs : List (Str × V)} {v y : V} {l : List Str}
theorem g_fld (h : ta σ H fun x H1 => ∃ a C dx fs v, x = .ref a ∧ H1 a = some (.ins C dx fs) ∧ Cls K C ∧ NoAttr K C f ∧ fs.lookup f = some v ∧ Q v H1) : tFld K ta f σ H Q := h
theorem g_fldE {Z : V → Prop} (h : H a = some (.ins C dx fs)) (c : Cls K C) (n : NoAttr K C f) (e : fs.lookup f = some v) (q : Z v) : ∃ a' C' dx' fs' v', V.ref a = .ref a' ∧ H a' = some (.ins C' dx' fs') ∧ Cls K C' ∧ NoAttr K C' f ∧ fs'.lookup f = some v' ∧ Z v' := ⟨a, C, dx, fs, v, rfl, h, c, n, e, q⟩
theorem g_sf (h : tv σ H fun y H1 => ta σ H1 fun x H2 => ∃ a C dx fs, x = .ref a ∧ H2 a = some (.ins C dx fs) ∧ Cls K C ∧ NoAttr K C f ∧ fs.length < 1000 ∧ D.nx σ (upd H2 a (.ins C dx (putF f y fs)))) : sFld K ta tv f D σ H := h
theorem g_sfE {Z : Hp → Prop} (h : H a = some (.ins C dx fs)) (c : Cls K C) (n : NoAttr K C f) (e : fs.length < 1000) (q : Z (upd H a (.ins C dx (putF f y fs)))) : ∃ a' C' dx' fs', V.ref a = .ref a' ∧ H a' = some (.ins C' dx' fs') ∧ Cls K C' ∧ NoAttr K C' f ∧ fs'.length < 1000 ∧ Z (upd H a' (.ins C' dx' (putF f y fs'))) := ⟨a, C, dx, fs, rfl, h, c, n, e, q⟩
theorem na_of (h : ∀ f, f ∈ l → NoAttr K C f) (m : l.contains f = true) : NoAttr K C f := h f (List.contains_iff_mem.mp m)
theorem putF_new : ∀ {fs : List (Str × V)}, (fs.map Prod.fst).contains f = false → putF f y fs = fs ++ [(f, y)]
  | [], _ => rfl
  | (g, z) :: fs, h => by
    simp only [List.map_cons, List.contains_cons, Bool.or_eq_false_iff] at h
    unfold putF
    rw [putF_new h.2]
    have e : ¬ g = f := fun e => by
      rw [e] at h
      simp at h
    simp [e]
end
/-- a new object x while its fields are being set -/
structure InitAt (S : List Addr) (x C dx : Addr) (H0 H : Hp) (gs : List (Str × V)) (fs : List (Str × PyData)) : Prop where
  fr : Fr [x] H0 H
  hx : H x = some (.ins C dx gs)
  dq : DqN S H gs fs
  al : Al S H
  mem : x ∈ S
section
variable {K : PySem.W.Frag} {S : List Addr} {x C dx : Addr} {H0 H H' : Hp} {gs : List (Str × V)} {fs : List (Str × PyData)} {f : Str} {v : V} {d : PyData}
theorem InitAt.start (hx : H x = some (.ins C dx [])) (al : Al S H) (m : x ∈ S) : InitAt S x C dx H H [] [] := ⟨Fr.refl, hx, .nil, al, m⟩
theorem InitAt.same (I : InitAt S x C dx H0 H gs fs) (e : Same H H') : InitAt S x C dx H0 H' gs fs := ⟨I.fr.trans (Fr.same e), e _ _ I.hx, I.dq.fr (Fr.same e), I.al.same e, I.mem⟩
theorem InitAt.put (I : InitAt S x C dx H0 H gs fs) (hv : Dq S H v d) (f : Str) (hn : (gs.map Prod.fst).contains f = false) : InitAt S x C dx H0 (upd H x (.ins C dx (putF f v gs))) (gs ++ [(f, v)]) (fs ++ [(f, d)]) := by
  rw [putF_new hn]
  have u : Fr S H (upd H x (.ins C dx (gs ++ [(f, v)]))) := Fr.upd I.mem
  refine ⟨I.fr.trans (Fr.upd (by simp)), upd_same, (I.dq.fr u).app (.cons (hv.fr u) .nil), ?_, I.mem⟩
  intro b m q
  by_cases hb : b = x
  · rw [hb, upd_same] at q; cases q
  · rw [upd_ne hb] at q; exact I.al b m q
theorem InitAt.dqO (I : InitAt S x C dx H0 H gs fs) (h : Dq S H0 v d) : Dq S H v d := h.fr (I.fr.mono fun a m => by rw [show a = x by simpa using m]; exact I.mem)
theorem InitAt.deO (I : InitAt S x C dx H0 H gs fs) (h : De K S H0 v d) : De K S H v d := h.fr (I.fr.mono fun a m => by rw [show a = x by simpa using m]; exact I.mem)
theorem De.dq (h : De K S H v d) (n : d ≠ .tuple []) : Dq S H v d := by
  rcases h with h | ⟨e, _⟩
  · exact h
  · exact absurd e n
end
/-! ### sequences of data -/
def Sq1 (d : PyData) (L : List PyData) : Prop := sqI d = some L ∧ L.length < 1000
def Sq2 (d : PyData) (L : List (List PyData)) : Prop := ∃ xs, sqI d = some xs ∧ xs.map sqI = L.map some ∧ L.length < 1000
def Sq3 (d : PyData) (L : List (List (List PyData))) : Prop := ∃ xs, sqI d = some xs ∧ xs.length = L.length ∧ (∀ (i : Nat) x l, xs[i]? = some x → L[i]? = some l → Sq2 x l) ∧ L.length < 1000
def ltD (L : List (List PyData)) : PyData := .list (L.map .tuple)
def llD (L : List (List PyData)) : PyData := .list (L.map .list)
def ouD3 (L : List (List (List PyData))) : PyData := .list (L.map ltD)
section
variable {L : List (List PyData)} {M : List (List (List PyData))} {l : List PyData}
theorem Sq1.ls (h : l.length < 1000) : Sq1 (.list l) l := ⟨rfl, h⟩
theorem Sq1.e : Sq1 (.tuple []) [] := ⟨rfl, by decide⟩
theorem Sq2.lt (h : L.length < 1000) : Sq2 (ltD L) L := ⟨_, rfl, by rw [List.map_map]; rfl, h⟩
theorem Sq2.ll (h : L.length < 1000) : Sq2 (llD L) L := ⟨_, rfl, by rw [List.map_map]; rfl, h⟩
theorem Sq2.e : Sq2 (.tuple []) [] := ⟨[], rfl, rfl, by decide⟩
theorem Sq3.ou (h : M.length < 1000) (k : ∀ c, c ∈ M → c.length < 1000) : Sq3 (ouD3 M) M := by
  refine ⟨_, rfl, by rw [List.length_map], fun i x l e1 e2 => ?_, h⟩
  rw [List.getElem?_map, e2] at e1
  cases e1
  exact Sq2.lt (k l (List.mem_of_getElem? e2))
theorem Sq3.e : Sq3 (.tuple []) [] := ⟨[], rfl, rfl, fun i x l e1 _ => by simp at e1, by decide⟩
theorem Sq3.le : Sq3 (.list []) [] := ⟨[], rfl, rfl, fun i x l e1 _ => by simp at e1, by decide⟩
theorem Sq2.le : Sq2 (.list []) [] := ⟨[], rfl, rfl, by decide⟩
theorem fm_ltA {α : Type} {L : List α} {f : α → PyData} {n : Nat} (h : n = L.length) : (List.range n).filterMap (fun i => (L[i]?).map f) = L.map f := by
  subst h
  have e : (fun i : Nat => (L[i]?).map f) = fun i => (L.map f)[i]? := funext fun i => by rw [List.getElem?_map]
  rw [e]
  have := fm_map (es := L.map f) (rs := L.map f) rfl
  rwa [List.length_map] at this
theorem sq2_at {xs : List PyData} {i : Nat} {e : PyData} (h : xs.map sqI = L.map some) (he : xs[i]? = some e) : ∃ l, L[i]? = some l ∧ sqI e = some l := by
  have : (xs.map sqI)[i]? = (L.map some)[i]? := by rw [h]
  rw [List.getElem?_map, List.getElem?_map, he] at this
  cases hl : L[i]? with
  | none => rw [hl] at this; cases this
  | some l => rw [hl] at this; exact ⟨l, rfl, by simpa using this⟩
theorem sq2_len {xs : List PyData} (h : xs.map sqI = L.map some) : xs.length = L.length := by
  have := congrArg List.length h
  simpa using this
end
def fTof (ds : List PyData) (d : PyData) : Prop := ∃ r L, ds = [r] ∧ Sq2 r L ∧ d = ltD L
theorem DqN.consE {S : List Addr} {H : Hp} {n : Str} {d : PyData} {fs : List (Str × V)} {ds : List (Str × PyData)} (h : DqN S H fs ((n, d) :: ds)) : ∃ v gs, fs = (n, v) :: gs ∧ Dq S H v d ∧ DqN S H gs ds := by
  cases h with
  | cons h r => exact ⟨_, _, rfl, h, r⟩
theorem DqN.nilE {S : List Addr} {H : Hp} {fs : List (Str × V)} (h : DqN S H fs []) : fs = [] := by cases h; rfl
theorem lstOf_de {K : PySem.W.Frag} {S : List Addr} {H : Hp} {v : V} {e : PyData} {l : List PyData} {Q : VK} (al : Al S H) (h : De K S H v e) (hl : sqI e = some l) (q : ∀ p H', Same H H' → Dq S H' (.ref p) (.list l) → Q (.ref p) H') : rLstOf K [v] H Q := by
  obtain ⟨a, zs, h | h⟩ := h.seq hl
  · obtain ⟨rfl, hA, hs⟩ := h
    exact ⟨a, zs, rfl, .inl (hs _ Fr.refl), fun p hp => q p _ (Fl.Same.new hp) (Dq.newL al hp hA)⟩
  · obtain ⟨a, zs, rfl, hA, hs⟩ := h
    exact ⟨a, zs, rfl, .inr (hs _ Fr.refl), fun p hp => q p _ (Fl.Same.new hp) (Dq.newL al hp hA)⟩
theorem lstOf_app {K : PySem.W.Frag} {S : List Addr} {H : Hp} {v : V} {e : PyData} {l : List PyData} {Q : VK} (al : Al S H) (h : Dq S H v e) (hl : sqI e = some l) (q : ∀ p H', Same H H' → Dq S H' (.ref p) (.list l) → Q (.ref p) H') : rLstOf K [v] H Q := lstOf_de al (.inl h) hl q
theorem g_make {C : Addr} {n m : Nat} {sp : Sp} {gV : List V → List V → List V} {E : XK} {t tk : TA} {σ : L2.St} {H : Hp} {Q : VK}
    (h : t σ H fun vs H1 => tk σ H1 fun zs H2 => vs.length = n ∧ zs.length = m ∧ ∀ x dx, H2 x = none → H2 dx = none → dx ≠ x → sp (gV (.ref x :: vs) zs) (upd (upd H2 dx (.own x)) x (.ins C dx [])) (fun v H3 => v = .non ∧ Q (.ref x) H3) E) : tMakeK C n m sp gV E t tk σ H Q := h
theorem g_mk {A B C : Prop} (h1 : A) (h2 : B) (h3 : C) : A ∧ B ∧ C := ⟨h1, h2, h3⟩
/-! ### the parts of a font -/
structure GlR where
  adv : PyData
  outl : List (List (List PyData))
  parts : List (List PyData)
  anch : List (List PyData)
  mark : PyData
  deltas : List (List PyData)
  hint : List (List PyData)
structure RuR where
  inside : List (List PyData)
  back : List (List PyData)
  ahead : List (List PyData)
  out : List PyData
  calls : List (List PyData)
  extra : PyData
structure LkR where
  kind : PyData
  rules : List RuR
  ign : PyData
def GlR.F (g : GlR) : List (Str × PyData) := [("advance", g.adv), ("outline", ouD3 g.outl), ("parts", ltD g.parts), ("anchors", ltD g.anch), ("mark", g.mark), ("deltas", ltD g.deltas), ("hint", ltD g.hint)]
def RuR.F (r : RuR) : List (Str × PyData) := [("inside", llD r.inside), ("back", llD r.back), ("ahead", llD r.ahead), ("out", .list r.out), ("calls", ltD r.calls), ("extra", r.extra)]
def LkR.F (C : Addr) (k : LkR) : List (Str × PyData) := [("kind", k.kind), ("rules", .list (k.rules.map fun r => insD C r.F)), ("ignore", k.ign)]
structure GlR.ok (g : GlR) : Prop where
  a : g.adv ≠ .tuple []
  m : g.mark ≠ .tuple []
  o : g.outl.length < 1000
  c : ∀ c, c ∈ g.outl → c.length < 1000
  p : g.parts.length < 1000
  n : g.anch.length < 1000
  d : g.deltas.length < 1000
  h : g.hint.length < 1000
structure RuR.ok (x : RuR) : Prop where
  i : x.inside.length < 1000
  b : x.back.length < 1000
  a : x.ahead.length < 1000
  o : x.out.length < 1000
  c : x.calls.length < 1000
  e : x.extra ≠ .tuple []
structure LkR.ok (x : LkR) : Prop where
  k : x.kind ≠ .tuple []
  r : x.rules.length < 1000
  ro : ∀ r, r ∈ x.rules → RuR.ok r
  g : x.ign ≠ .tuple []
/-- what Glyph is called with -/
def fGl (ds : List PyData) (fs : List (Str × PyData)) : Prop := ∃ (o p n d h : PyData) (g : GlR), ds = [g.adv, o, p, n, g.mark, d, h] ∧ g.ok ∧ Sq3 o g.outl ∧ Sq2 p g.parts ∧ Sq2 n g.anch ∧ Sq2 d g.deltas ∧ Sq2 h g.hint ∧ fs = g.F
def fRu (ds : List PyData) (fs : List (Str × PyData)) : Prop := ∃ (i b a o c : PyData) (r : RuR), ds = [i, b, a, o, c, r.extra] ∧ r.ok ∧ Sq2 i r.inside ∧ Sq2 b r.back ∧ Sq2 a r.ahead ∧ Sq1 o r.out ∧ Sq2 c r.calls ∧ fs = r.F
def fLk (CR : Addr) (ds : List PyData) (fs : List (Str × PyData)) : Prop := ∃ (k : LkR) (rs : PyData), ds = [k.kind, rs, k.ign] ∧ k.ok ∧ sqI rs = some (k.rules.map fun r => insD CR r.F) ∧ fs = k.F CR
def fCg (CG : Addr) (ds : List PyData) (d : PyData) : Prop := ∃ g : GlR, g.ok ∧ ds = [insD CG g.F] ∧ d = insD CG g.F
def fCr (CR : Addr) (ds : List PyData) (d : PyData) : Prop := ∃ r : RuR, r.ok ∧ ds = [insD CR r.F] ∧ d = insD CR r.F
def fCl (CR CL : Addr) (ds : List PyData) (d : PyData) : Prop := ∃ k : LkR, k.ok ∧ ds = [insD CL (k.F CR)] ∧ d = insD CL (k.F CR)
/-- lcs_done: a walk over items of one kind, each copied -/
theorem at_map {α : Type} {L : List α} {f : α → PyData} {i : Nat} {e : PyData} (h : (L.map f)[i]? = some e) : ∃ x, L[i]? = some x ∧ e = f x := by
  rw [List.getElem?_map] at h
  cases hl : L[i]? with
  | none => rw [hl] at h; cases h
  | some x => rw [hl] at h; exact ⟨x, rfl, by simpa using h.symm⟩
/-! ### whole fonts -/
structure FoR where
  unit : PyData
  glyphs : List GlR
  chars : List (List PyData)
  lookups : List LkR
  features : List (PyData × List PyData)
  axes : List (List PyData)
  regions : List (List (List PyData))
  functions : List (List (List PyData))
  presets : List PyData
structure Cs where
  G : Addr
  R : Addr
  L : Addr
  F : Addr
def glD (c : Cs) (g : GlR) : PyData := insD c.G g.F
def lkD (c : Cs) (k : LkR) : PyData := insD c.L (k.F c.R)
def feD (f : PyData × List PyData) : PyData := .tuple [f.1, .list f.2]
def FoR.F (c : Cs) (f : FoR) : List (Str × PyData) := [("unit", f.unit), ("glyphs", .list (f.glyphs.map (glD c))), ("chars", ltD f.chars), ("lookups", .list (f.lookups.map (lkD c))), ("features", .list (f.features.map feD)), ("axes", ltD f.axes), ("regions", ouD3 f.regions), ("functions", ouD3 f.functions), ("presets", .list f.presets)]
def foD (c : Cs) (f : FoR) : PyData := insD c.F (f.F c)
structure FoR.ok (x : FoR) : Prop where
  u : x.unit ≠ .tuple []
  g : x.glyphs.length < 1000
  go : ∀ g, g ∈ x.glyphs → GlR.ok g
  c : x.chars.length < 1000
  l : x.lookups.length < 1000
  lo : ∀ k, k ∈ x.lookups → LkR.ok k
  f : x.features.length < 1000
  a : x.axes.length < 1000
  r : x.regions.length < 1000
  n : x.functions.length < 1000
  p : x.presets.length < 1000
/-- the pairs of features as they are handed in: a pair of a name and a list or tuple -/
def SqF (d : PyData) (L : List (PyData × List PyData)) : Prop := ∃ xs, sqI d = some xs ∧ xs.length = L.length ∧ (∀ (i : Nat) x (l : PyData × List PyData), xs[i]? = some x → L[i]? = some l → ∃ m, x = .tuple [l.1, m] ∧ Sq1 m l.2) ∧ L.length < 1000
theorem SqF.e : SqF (.tuple []) [] := ⟨[], rfl, rfl, fun i x l e1 _ => by simp at e1, by decide⟩
def fFf (c : Cs) (V : FoR → Prop) (ds : List PyData) (d : PyData) : Prop := ∃ f : FoR, V f ∧ ds = [foD c f] ∧ d = .none
def fFo (c : Cs) (V : FoR → Prop) (ds : List PyData) (fs : List (Str × PyData)) : Prop := ∃ (gs ch ls fe ax re fn pr : PyData) (f : FoR), ds = [f.unit, gs, ch, ls, fe, ax, re, fn, pr] ∧ f.ok ∧ V f ∧
  sqI gs = some (f.glyphs.map (glD c)) ∧ Sq2 ch f.chars ∧ sqI ls = some (f.lookups.map (lkD c)) ∧ SqF fe f.features ∧ Sq2 ax f.axes ∧ Sq3 re f.regions ∧ Sq3 fn f.functions ∧ Sq1 pr f.presets ∧ fs = f.F c
theorem InitAt.fin {S : List Addr} {x C dx : Addr} {H0 H : Hp} {gs : List (Str × V)} {fs : List (Str × PyData)} (I : InitAt S x C dx H0 H gs fs) : Al (S.filter fun a => a ≠ x) H ∧ Dq (S.filter fun a => a ≠ x) H (.ref x) (insD C fs) := by
  refine ⟨fun a m => I.al a ((List.mem_filter.mp m).1), Dq.insI (by simp) I.hx (I.dq.mono fun a m => (List.mem_filter.mp m).1)⟩
end Fl

set_option Elab.async false
set_option linter.all false
set_option maxRecDepth 100000
set_option maxHeartbeats 4000000
set_option exponentiation.threshold 20000
/-! readings for the checks of a font; fonts in numbers -/
namespace Fl
open PySem PySem.Spec PyProof.Rows L2
section
variable {X : Cx} {K : PySem.W.Frag} {σ : L2.St} {H : Hp} {Q : VK}
theorem peOrT {a b : Expr} {ta tb : TE} {rest : List Expr} {pos : Pos} (e : X.K = K) (h1 : PE X a ta) (h2 : PE X (.BoolOp .Or (b :: rest) pos) tb) : PE X (.BoolOp .Or (a :: b :: rest) pos) (tOrT K ta tb) := by subst e; exact pe_orT h1 h2
theorem g_orT {ta tb : TE} (h : ta σ H fun x H1 => ∃ k, TruV K x H1 k ∧ if k = true then Q x H1 else tb σ H1 Q) : tOrT K ta tb σ H Q := h
theorem g_truN {Z : Bool → Prop} (q : Z false) : ∃ k, TruV K .non H k ∧ Z k := ⟨false, rfl, q⟩
theorem g_chain {r r' : R2} {ta tb tc : TE} (h : ta σ H fun x H1 => tb σ H1 fun y H2 => r x y H2 fun z H3 => ∃ k, z = .bl k ∧ (if k = true then tc σ H3 fun w' H4 => r' y w' H4 Q else Q (.bl false) H3)) : tChain r r' ta tb tc σ H Q := h
theorem g_yesB {p : Prop} [Decidable p] {A B : Prop} (h : p) (q : A) : if decide p = true then A else B := by rw [if_pos (by simpa using h)]; exact q
theorem g_noB {p : Prop} [Decidable p] {A B : Prop} (h : ¬ p) (q : B) : if decide p = true then A else B := by rw [if_neg (by simpa using h)]; exact q
theorem g_nB {p : Prop} [Decidable p] {A B : Prop} (h : p) (q : B) : if (!decide p) = true then A else B := by rw [decide_eq_true h]; simpa using q
theorem g_inT {neg : Bool} {a : Addr} {xs : List V} {x : V} {b : Bool} (h : SqT K H a xs) (f1 : flatV x = true) (f2 : xs.all flatV = true) (e : (if neg = true then !inV x xs else inV x xs) = b) (q : Q (.bl b) H) : rIn K neg x (.ref a) H Q := ⟨a, xs, rfl, .inr h, f1, f2, by rw [e]; exact q⟩
theorem g_tru0n {a : Addr} {xs : List V} {Z : Bool → Prop} (h : SqL K H a xs) (e : xs.length = 0) (q : Z false) : ∃ k, TruV K (.ref a) H k ∧ Z k := by
  cases xs with
  | nil => exact ⟨_, .inl ⟨_, h, rfl⟩, q⟩
  | cons _ _ => cases e
theorem g_asg2 {te : TE} {g : TG} {D : Ends} (h : te σ H fun x H1 => g x σ H1 D.nx) : tAsg te g D σ H := h
theorem g_kd {w : World} {p : Addr} {z : Str} {v : V} (h : KDct K w p z v) (q : Q v H) : rIxD K w (.ref p) (.str z) H Q := ⟨p, z, v, rfl, rfl, h, q⟩
theorem g_neS {x y : Str} (q : Q (.bl (!decide (x = y))) H) : rNe (.str x) (.str y) H Q := ⟨rfl, by
  have e : decide (V.str x = V.str y) = decide (x = y) := by simp
  rw [e]
  exact q⟩
theorem g_nkd {d : Addr} {z : Str} {Z : VK} {u0 : Value} (h : PySem.W.nsIn K d z = some (some u0)) (q : Z (V.bl false) H) : ∃ z' r, V.str z = V.str z' ∧ V.ref d = V.ref d ∧ PySem.W.nsIn K d z' = some r ∧ Z (V.bl (!r.isSome)) H := ⟨z, _, rfl, rfl, h, q⟩
theorem g_noNB {p : Prop} [Decidable p] {A B : Prop} (h : ¬ p) (q : A) : if (!decide p) = true then A else B := by rw [decide_eq_false h]; simpa using q
theorem piEnum {e : Expr} {ta : TA} {p pos tpos : Pos} {elts : List Expr} {kk : Nat} (eK : X.K = K) (h1 : Gl X "enumerate") (h2 : X.mg "enumerate" = none) (h3 : PA X [e] ta) (h4 : starEach [e] X.env = [(false, eval e X.env)] := by rfl) :
    PI X (.Tuple elts kk tpos) (.Call (.Name "enumerate" p) [e] [] pos) (iEnum K ta) := by subst eK; exact pi_enum h1 h2 h3 h4
theorem g_enum {ta : TE} {R : It → Hp → Prop} (h : ta σ H fun x H1 => ∃ a xs, [x] = [V.ref a] ∧ SqL K H1 a xs ∧ R (Ite K a) H1) : iEnum K (tCons ta tNil) σ H R := h
theorem g_enE {a : Addr} {xs : List V} {Z : Addr → Prop} (h : SqL K H a xs) (q : Z a) : ∃ c zs, [V.ref a] = [V.ref c] ∧ SqL K H c zs ∧ Z c := ⟨a, xs, rfl, h, q⟩
theorem forK_e {a : Addr} {xs : List V} {g : TG} {tb : TS} {D : Ends} (Pv : Nat → L2.St → Hp → Prop) (h0 : Pv 0 σ H) (hl : ∀ i σ H, i ≤ xs.length → Pv i σ H → SqL K H a xs)
    (hs : ∀ (i : Nat) (x : V) (T : Addr) (σ : L2.St) (H : Hp), xs[i]? = some x → Pv i σ H → H T = none → g (.ref T) σ (upd H T (.tup [.int (i : Int), x])) fun σ2 H2 => tb { D with nx := Pv (i + 1), ct := Pv (i + 1), bk := D.nx } σ2 H2) (hd : ∀ σ H, Pv xs.length σ H → D.nx σ H) : forK (Ite K a) g tb D σ H := by
  refine ⟨fun i m σ H => m = xs.length - i ∧ i ≤ xs.length ∧ Pv i σ H, ⟨xs.length, rfl, Nat.zero_le _, h0⟩, fun i m σ H h => ?_⟩
  obtain ⟨rfl, hi, p⟩ := h
  have q := hl i σ H hi p
  by_cases hlt : i < xs.length
  · refine .inr ⟨⟨xs, xs[i], q, by simp [hlt]⟩, Pv (i + 1), fun σ' H' p' => ⟨xs.length - (i + 1), by omega, rfl, hlt, p'⟩, fun x H' y => ?_⟩
    obtain ⟨T, z, rfl, hT, rfl, y⟩ := y
    exact hs i z T σ H (y xs q) p hT
  · have e : i = xs.length := by omega
    subst e
    exact .inl ⟨⟨xs, q, Nat.le_refl _⟩, hd σ H p⟩
theorem clAll (e : X.K = K) (hc : X.calm = true) : CallR X (.builtin "all") (rAll K) := by subst e; exact cr_all hc
theorem g_allL {a : Addr} {bs : List Bool} (h : SqL K H a (bs.map V.bl)) (q : Q (.bl (bs.all id)) H) : rAll K [.ref a] H Q := ⟨a, bs, rfl, h, q⟩
def rKd (d : Addr) (K : PySem.W.Frag) (neg : Bool) : R2 := fun x y H Q => ∃ z r, x = V.str z ∧ y = V.ref d ∧ PySem.W.nsIn K d z = some r ∧ Q (V.bl (if neg then !r.isSome else r.isSome)) H
end
/-! ### objects taken apart -/
section
variable {S : List Addr} {H : Hp} {v : V} {c : Cs}
theorem glE {g : GlR} (h : Dq S H v (glD c g)) : ∃ a dx v1 v2 v3 v4 v5 v6 v7, v = .ref a ∧ a ∉ S ∧ H a = some (.ins c.G dx [("advance", v1), ("outline", v2), ("parts", v3), ("anchors", v4), ("mark", v5), ("deltas", v6), ("hint", v7)]) ∧
    Dq S H v1 g.adv ∧ Dq S H v2 (ouD3 g.outl) ∧ Dq S H v3 (ltD g.parts) ∧ Dq S H v4 (ltD g.anch) ∧ Dq S H v5 g.mark ∧ Dq S H v6 (ltD g.deltas) ∧ Dq S H v7 (ltD g.hint) := by
  obtain ⟨a, dx, fs, rfl, ha, hA, hN⟩ := h.insE
  obtain ⟨v1, fs, rfl, h1, hN⟩ := hN.consE
  obtain ⟨v2, fs, rfl, h2, hN⟩ := hN.consE
  obtain ⟨v3, fs, rfl, h3, hN⟩ := hN.consE
  obtain ⟨v4, fs, rfl, h4, hN⟩ := hN.consE
  obtain ⟨v5, fs, rfl, h5, hN⟩ := hN.consE
  obtain ⟨v6, fs, rfl, h6, hN⟩ := hN.consE
  obtain ⟨v7, fs, rfl, h7, hN⟩ := hN.consE
  cases hN.nilE
  exact ⟨a, dx, v1, v2, v3, v4, v5, v6, v7, rfl, ha, hA, h1, h2, h3, h4, h5, h6, h7⟩
theorem ruE {C : Addr} {r : RuR} (h : Dq S H v (insD C r.F)) : ∃ a dx v1 v2 v3 v4 v5 v6, v = .ref a ∧ a ∉ S ∧ H a = some (.ins C dx [("inside", v1), ("back", v2), ("ahead", v3), ("out", v4), ("calls", v5), ("extra", v6)]) ∧
    Dq S H v1 (llD r.inside) ∧ Dq S H v2 (llD r.back) ∧ Dq S H v3 (llD r.ahead) ∧ Dq S H v4 (.list r.out) ∧ Dq S H v5 (ltD r.calls) ∧ Dq S H v6 r.extra := by
  obtain ⟨a, dx, fs, rfl, ha, hA, hN⟩ := h.insE
  obtain ⟨v1, fs, rfl, h1, hN⟩ := hN.consE
  obtain ⟨v2, fs, rfl, h2, hN⟩ := hN.consE
  obtain ⟨v3, fs, rfl, h3, hN⟩ := hN.consE
  obtain ⟨v4, fs, rfl, h4, hN⟩ := hN.consE
  obtain ⟨v5, fs, rfl, h5, hN⟩ := hN.consE
  obtain ⟨v6, fs, rfl, h6, hN⟩ := hN.consE
  cases hN.nilE
  exact ⟨a, dx, v1, v2, v3, v4, v5, v6, rfl, ha, hA, h1, h2, h3, h4, h5, h6⟩
theorem lkE {k : LkR} (h : Dq S H v (lkD c k)) : ∃ a dx v1 v2 v3, v = .ref a ∧ a ∉ S ∧ H a = some (.ins c.L dx [("kind", v1), ("rules", v2), ("ignore", v3)]) ∧
    Dq S H v1 k.kind ∧ Dq S H v2 (.list (k.rules.map fun r => insD c.R r.F)) ∧ Dq S H v3 k.ign := by
  obtain ⟨a, dx, fs, rfl, ha, hA, hN⟩ := h.insE
  obtain ⟨v1, fs, rfl, h1, hN⟩ := hN.consE
  obtain ⟨v2, fs, rfl, h2, hN⟩ := hN.consE
  obtain ⟨v3, fs, rfl, h3, hN⟩ := hN.consE
  cases hN.nilE
  exact ⟨a, dx, v1, v2, v3, rfl, ha, hA, h1, h2, h3⟩
theorem foE {f : FoR} (h : Dq S H v (foD c f)) : ∃ a dx v1 v2 v3 v4 v5 v6 v7 v8 v9, v = .ref a ∧ a ∉ S ∧ H a = some (.ins c.F dx [("unit", v1), ("glyphs", v2), ("chars", v3), ("lookups", v4), ("features", v5), ("axes", v6), ("regions", v7), ("functions", v8), ("presets", v9)]) ∧
    Dq S H v1 f.unit ∧ Dq S H v2 (.list (f.glyphs.map (glD c))) ∧ Dq S H v3 (ltD f.chars) ∧ Dq S H v4 (.list (f.lookups.map (lkD c))) ∧ Dq S H v5 (.list (f.features.map feD)) ∧ Dq S H v6 (ltD f.axes) ∧ Dq S H v7 (ouD3 f.regions) ∧ Dq S H v8 (ouD3 f.functions) ∧ Dq S H v9 (.list f.presets) := by
  obtain ⟨a, dx, fs, rfl, ha, hA, hN⟩ := h.insE
  obtain ⟨v1, fs, rfl, h1, hN⟩ := hN.consE
  obtain ⟨v2, fs, rfl, h2, hN⟩ := hN.consE
  obtain ⟨v3, fs, rfl, h3, hN⟩ := hN.consE
  obtain ⟨v4, fs, rfl, h4, hN⟩ := hN.consE
  obtain ⟨v5, fs, rfl, h5, hN⟩ := hN.consE
  obtain ⟨v6, fs, rfl, h6, hN⟩ := hN.consE
  obtain ⟨v7, fs, rfl, h7, hN⟩ := hN.consE
  obtain ⟨v8, fs, rfl, h8, hN⟩ := hN.consE
  obtain ⟨v9, fs, rfl, h9, hN⟩ := hN.consE
  cases hN.nilE
  exact ⟨a, dx, v1, v2, v3, v4, v5, v6, v7, v8, v9, rfl, ha, hA, h1, h2, h3, h4, h5, h6, h7, h8, h9⟩
/-- a list whose length alone matters -/
theorem lstN {f : α → PyData} {L : List α} (h : Dq S H v (.list (L.map f))) : ∃ a xs, v = .ref a ∧ H a = some (.lst xs) ∧ xs.length = L.length ∧ DqA S H xs (L.map f) := by
  obtain ⟨a, xs, rfl, _, q, r⟩ := h.lstE
  exact ⟨a, xs, rfl, q, by rw [r.len, List.length_map], r⟩
end
/-! ### rules and lookups in numbers -/
def iD (l : List Int) : List PyData := l.map .int
structure RuV where
  inside : List (List Int)
  back : List (List Int)
  ahead : List (List Int)
  out : List Int
  calls : List (Int × Int)
structure LkV where
  kind : Str
  rules : List RuV
  ign : Bool
structure GlV where
  adv : Int
  mark : Bool
def RuV.R (r : RuV) : RuR := ⟨r.inside.map iD, r.back.map iD, r.ahead.map iD, iD r.out, r.calls.map fun p => [.int p.1, .int p.2], .int 0⟩
def LkV.R (k : LkV) : LkR := ⟨.str k.kind, k.rules.map RuV.R, .bool k.ign⟩
def GlV.R (g : GlV) : GlR := ⟨.int g.adv, [], [], [], .bool g.mark, [], []⟩
structure FoV where
  glyphs : List GlV
  lks : List LkV
def FoV.R (f : FoV) : FoR := ⟨.int 100, f.glyphs.map GlV.R, [], f.lks.map LkV.R, [], [], [], [], []⟩
/-- the number before the i-th -/
def prv (l : List Int) : Nat → Int
  | 0 => -1
  | i + 1 => (l[i]?).getD (-1)
/-- a set of glyphs of a font of n glyphs -/
structure IsSet (n : Nat) (l : List Int) : Prop where
  ne : l ≠ []
  up : ∀ (i : Nat) g, l[i]? = some g → prv l i < g ∧ g < n
theorem IsSet.len {n : Nat} {l : List Int} (h : IsSet n l) : l.length ≤ n := by
  have : ∀ i, i ≤ l.length → (i : Int) - 1 ≤ prv l i := by
    intro i
    induction i with
    | zero => intro _; simp [prv]
    | succ i ih =>
      intro hi
      have h1 := (h.up i _ (List.getElem?_eq_getElem (by omega))).1
      have h2 := ih (by omega)
      have e : prv l (i + 1) = l[i]'(by omega) := by simp [prv, List.getElem?_eq_getElem (show i < l.length by omega)]
      omega
  have h1 := this l.length (Nat.le_refl _)
  cases hl : l.length with
  | zero => omega
  | succ m =>
    rw [hl] at h1
    have h2 := (h.up m _ (List.getElem?_eq_getElem (by omega))).2
    have e : prv l (m + 1) = l[m]'(by omega) := by simp [prv, List.getElem?_eq_getElem (show m < l.length by omega)]
    omega
/-- a font of such parts, as the laws make it -/
def kindsR : List Str := ["single", "multiple", "ligature", "chain", "reverse"]
structure RuV.Ok (n : Nat) (ks : List Str) (kind : Str) (r : RuV) : Prop where
  i : (kind = "single" ∨ kind = "multiple" ∨ kind = "reverse") → r.inside.length = 1
  i2 : kind = "ligature" → 2 ≤ r.inside.length
  i3 : 1 ≤ r.inside.length ∧ r.inside.length ≤ 4
  b : r.back.length ≤ 3
  a : r.ahead.length ≤ 3
  ba : ¬ (kind = "chain" ∨ kind = "reverse") → r.back = [] ∧ r.ahead = []
  s : ∀ c, c ∈ r.inside ++ r.back ++ r.ahead → IsSet n c
  o : r.out.length ≤ 8
  og : ∀ g, g ∈ r.out → 0 ≤ g ∧ g < n
  oc : kind = "chain" → r.out = []
  os : (kind = "single" ∨ kind = "reverse") → ∀ l, r.inside[0]? = some l → r.out.length = l.length
  ol : kind = "ligature" → r.out.length = 1
  c : kind ≠ "chain" → r.calls = []
  cu : ∀ (i : Nat) p, r.calls[i]? = some p → prv (r.calls.map Prod.fst) i < p.1 ∧ p.1 < r.inside.length ∧ 0 ≤ p.2 ∧ ∃ k, ks[p.2.toNat]? = some k ∧ (k = "single" ∨ k = "multiple")
structure LkV.Ok (n : Nat) (ks : List Str) (x : LkV) : Prop where
  k : x.kind ∈ kindsR
  r : x.rules.length ≤ 12
  ro : ∀ r, r ∈ x.rules → RuV.Ok n ks x.kind r
structure FoV.Ok (f : FoV) : Prop where
  g : 1 ≤ f.glyphs.length ∧ f.glyphs.length ≤ 60
  ga : ∀ g, g ∈ f.glyphs → 0 ≤ g.adv ∧ g.adv ≤ 16384
  l : f.lks.length ≤ 20
  lo : ∀ k, k ∈ f.lks → k.Ok f.glyphs.length (f.lks.map LkV.kind)
theorem RuV.R_in (r : RuV) : llD (r.R.inside ++ r.R.back ++ r.R.ahead) = .list ((r.inside ++ r.back ++ r.ahead).map fun l => .list (iD l)) := by
  unfold llD RuV.R
  simp only [← List.map_append, List.map_map]
  rfl
theorem truesL {α : Type} {S : List Addr} {H : Hp} : ∀ {L : List α} {vs : List V}, DqA S H vs (L.map fun _ => PyData.bool true) → vs = (L.map fun _ => true).map V.bl
  | [], _, h => by cases h; rfl
  | _ :: L, _, .cons h r => by
    cases h.blE
    rw [truesL r]
    rfl
theorem all_trues {α : Type} : ∀ {L : List α}, (L.map fun _ => true).all id = true
  | [] => rfl
  | _ :: L => by simp
theorem allD {α : Type} {K : PySem.W.Frag} {S : List Addr} {H : Hp} {v : V} {L : List α} {Q : VK} (h : Dq S H v (.list (L.map fun _ => PyData.bool true))) (q : Q (.bl true) H) : rAll K [v] H Q := by
  obtain ⟨a, xs, rfl, _, hx, hA⟩ := h.lstE
  obtain rfl := truesL hA
  refine g_allL (SqL.of hx) ?_
  rw [all_trues]
  exact q
structure FoK (f : FoR) (ks : List Str) : Prop where
  g : f.glyphs.length < 1000
  l : f.lookups.length < 1000
  k : ∀ (i : Nat) k, ks[i]? = some k → ∃ lk, f.lookups[i]? = some lk ∧ lk.kind = .str k
theorem boolsL {α : Type} {p : α → Bool} {S : List Addr} {H : Hp} : ∀ {L : List α} {vs : List V}, DqA S H vs (L.map fun x => PyData.bool (p x)) → vs = (L.map p).map V.bl
  | [], _, h => by cases h; rfl
  | _ :: L, _, .cons h r => by
    cases h.blE
    rw [boolsL r]
    rfl
theorem lcNil {S : List Addr} {H1 : Hp} {K : PySem.W.Frag} {g : TG} {tt : TT} {te : TE} {vs : List Nat} {σ : L2.St} {Q : VK} {a : Addr} (hS : Al S H1) (ha : Dq S H1 (.ref a) (.list [])) (q : ∀ D H, Same H1 H → Dq S H (.ref D) (.list []) → Q (.ref D) H) : lcK (Itl K a) g tt te vs σ H1 Q :=
  lcL (S := S) (es := []) (fun _ => none) hS ha (by decide) (fun D i x e H hD he => by simp at he) (fun D H s hD h => q D H s h)
theorem allE {K : PySem.W.Frag} {S : List Addr} {H : Hp} {v : V} {Q : VK} (h : Dq S H v (.list [])) (q : Q (.bl true) H) : rAll K [v] H Q := allD (L := ([] : List Unit)) h q
theorem no_has {P : Program} {w : World} {K : PySem.W.Frag} {mg : Str → Option Value} {base : Heap} {x : Str} {st : Stmt} {N ps : List Str} (D : DefIn K mg x st) (S : FnScope N ps (defScope st))
    (hb : ∀ (kV doc pm : Value) (an : Option Addr) (cdv ct : Value) (us : List Value), us.length = ps.length → bindArgs (PySem.W.fnOf x x (defArgs st) (defBody st) (defScope st) .none kV doc pm an cdv ct) ⟨us, []⟩ = pure (ps.zip us)) : Has P w K mg base 1 x ps (fun _ _ _ _ => False) :=
  has_of D S hb (fun _ _ _ _ h => h.elim) (fun _ _ _ _ _ _ _ _ _ _ h => h.elim)
/-- the dict of depths of glyphs without parts -/
def kv0 (n : Nat) : List (Key × V) := (List.range n).map fun k : Nat => (.inl (k : Int), .int 0)
theorem kv0_succ (n : Nat) : kv0 (n + 1) = kv0 n ++ [(.inl (n : Int), .int 0)] := by
  unfold kv0
  rw [List.range_succ, List.map_append]
  rfl
theorem kv0_len (n : Nat) : (kv0 n).length = n := by unfold kv0; simp
theorem kv0_none {n i : Nat} (h : n ≤ i) : valV (kv0 n) (.inl (i : Int)) = none := by
  unfold valV kv0
  rw [Option.map_eq_none_iff, List.find?_eq_none]
  intro x hx
  obtain ⟨k, hk, rfl⟩ := List.mem_map.mp hx
  have := List.mem_range.mp hk
  simp
  omega
theorem kv0_some {n i : Nat} (h : i < n) : ∃ v, valV (kv0 n) (.inl (i : Int)) = some v := by
  cases e : valV (kv0 n) (.inl (i : Int)) with
  | some v => exact ⟨v, rfl⟩
  | none =>
    exfalso
    unfold valV kv0 at e
    rw [Option.map_eq_none_iff, List.find?_eq_none] at e
    have := e (.inl (i : Int), .int 0) (List.mem_map.mpr ⟨i, List.mem_range.mpr h, rfl⟩)
    simp at this
theorem g_tB {t : TE} {σ : L2.St} {H : Hp} {Q : Bool → Hp → Prop} (h : t σ H fun x H1 => ∃ c, x = .bl c ∧ Q c H1) : tB t σ H Q := h
theorem g_dn {ty td : TE} {σ : L2.St} {H : Hp} {Q : VK} (h : ty σ H fun y H1 => td σ H1 fun x H2 => ∃ a o, x = .ref a ∧ DGet H2 a y o ∧ Q (.bl (!o.isSome)) H2) : tDNotIn ty td σ H Q := h
theorem g_dp {ty td tv : TE} {D : Ends} {σ : L2.St} {H : Hp} (h : tv σ H fun v H1 => td σ H1 fun x H2 => ty σ H2 fun y H3 => ∃ a H4, x = V.ref a ∧ DPut H3 a y v H4 ∧ D.nx σ H4) : sDPut td ty tv D σ H := h
theorem fm_some {n : Nat} : (List.range n).filterMap (fun j : Nat => some (PyData.int (j : Int))) = (List.range n).map fun j : Nat => PyData.int (j : Int) := by
  rw [← List.filterMap_eq_map]
  rfl
theorem fm_none {n : Nat} : (List.range n).filterMap (fun _ : Nat => (none : Option PyData)) = [] := by
  rw [List.filterMap_eq_nil_iff]
  intros
  rfl
theorem fnok_weak {P : Program} {w : World} {K : PySem.W.Frag} {mg : Str → Option Value} {base : Heap} {k : Nat} {f : Addr} {fd : FuncData} {ps : List Str} {sp sp' : Sp} (a : FnOk P w K mg base L2.CX0 k f fd ps sp) (h : ∀ vs H Q E, sp' vs H Q E → sp vs H Q E) : FnOk P w K mg base L2.CX0 k f fd ps sp' :=
  ⟨fun vs H Q E z => a.len vs H Q E (h _ _ _ _ z), fun A outer s H args us vs Q E r e b v z => a.run A outer s H args us vs Q E r e b v (h _ _ _ _ z)⟩
/-- a rule, a lookup as the laws hold them -/
def ruT (r : RuV) : PyData := .tuple [llD (r.inside.map iD), llD (r.back.map iD), llD (r.ahead.map iD), .list (iD r.out), ltD (r.calls.map fun p => [.int p.1, .int p.2])]
def lkT (k : LkV) : PyData := .tuple [.str k.kind, .list (k.rules.map ruT), .bool k.ign]
theorem RuV.Rok {n : Nat} {ks : List Str} {kind : Str} {r : RuV} (h : r.Ok n ks kind) (hn : n < 900) : r.R.ok := by
  have hc : r.calls.length < 1000 := by
    have h3 := h.i3.2
    have : ∀ i, i ≤ r.calls.length → (i : Int) - 1 ≤ prv (r.calls.map Prod.fst) i := by
      intro i
      induction i with
      | zero => intro _; simp [prv]
      | succ i ih =>
        intro hi
        have h1 := (h.cu i _ (List.getElem?_eq_getElem (by omega))).1
        have h2 := ih (by omega)
        have e : prv (r.calls.map Prod.fst) (i + 1) = (r.calls[i]'(by omega)).1 := by simp [prv, List.getElem?_eq_getElem (show i < r.calls.length by omega)]
        omega
    have h1 := this r.calls.length (Nat.le_refl _)
    cases hl : r.calls.length with
    | zero => omega
    | succ m =>
      rw [hl] at h1
      have h2 := (h.cu m _ (List.getElem?_eq_getElem (by omega))).2.1
      have e : prv (r.calls.map Prod.fst) (m + 1) = (r.calls[m]'(by omega)).1 := by simp [prv, List.getElem?_eq_getElem (show m < r.calls.length by omega)]
      omega
  have h3 := h.i3
  have hb := h.b
  have ha := h.a
  have ho := h.o
  refine ⟨?_, ?_, ?_, ?_, ?_, by show PyData.int 0 ≠ _; intro e; cases e⟩
  · show (r.inside.map iD).length < 1000; rw [List.length_map]; omega
  · show (r.back.map iD).length < 1000; rw [List.length_map]; omega
  · show (r.ahead.map iD).length < 1000; rw [List.length_map]; omega
  · show (r.out.map PyData.int).length < 1000; rw [List.length_map]; omega
  · show (r.calls.map _).length < 1000; rw [List.length_map]; omega
theorem LkV.Rok {n : Nat} {ks : List Str} {k : LkV} (h : k.Ok n ks) (hn : n < 900) : k.R.ok := by
  have := h.r
  refine ⟨(by intro e; cases e), ?_, fun r m => ?_, (by intro e; cases e)⟩
  · show (k.rules.map RuV.R).length < 1000; rw [List.length_map]; omega
  · obtain ⟨r', m', rfl⟩ := List.mem_map.mp m
    exact RuV.Rok (h.ro r' m') hn
theorem GlV.Rok {g : GlV} : g.R.ok := ⟨(by intro e; cases e), (by intro e; cases e), (show (0 : Nat) < 1000 by decide), (fun c m => nomatch m), (show (0 : Nat) < 1000 by decide), (show (0 : Nat) < 1000 by decide), (show (0 : Nat) < 1000 by decide), (show (0 : Nat) < 1000 by decide)⟩
theorem FoV.Rok {f : FoV} (h : f.Ok) : f.R.ok := by
  have hg := h.g
  have hl := h.l
  refine ⟨(by intro e; cases e), ?_, fun g m => ?_, (show (0 : Nat) < 1000 by decide), ?_, fun k m => ?_, (show (0 : Nat) < 1000 by decide), (show (0 : Nat) < 1000 by decide), (show (0 : Nat) < 1000 by decide), (show (0 : Nat) < 1000 by decide), (show (0 : Nat) < 1000 by decide)⟩
  · show (f.glyphs.map GlV.R).length < 1000; rw [List.length_map]; omega
  · obtain ⟨g', m', rfl⟩ := List.mem_map.mp m
    exact GlV.Rok
  · show (f.lks.map LkV.R).length < 1000; rw [List.length_map]; omega
  · obtain ⟨k', m', rfl⟩ := List.mem_map.mp m
    exact LkV.Rok (h.lo k' m') (by omega)
/-- the table of kinds -/
structure InsK (K : PySem.W.Frag) (w : World) (mg : Str → Option Value) : Prop where
  g : mg "INSIDE" = some (.ref (adr mg "INSIDE"))
  d : ∃ es n, KDict K w (adr mg "INSIDE") es n
  k : ∀ kind, kind ∈ kindsR → ∃ t lo hi, PySem.W.nsIn K (adr mg "INSIDE") kind = some (some (.ref t)) ∧ (∀ H : Hp, SqT K H t [.int lo, .int hi]) ∧ (kind, lo, hi) ∈ ([("single", 1, 1), ("multiple", 1, 1), ("ligature", 2, 4), ("chain", 1, 4), ("reverse", 1, 1)] : List (Str × Int × Int))
end Fl

set_option Elab.async false
set_option linter.all false
set_option maxRecDepth 100000
set_option maxHeartbeats 4000000
/-! draws: a list of integers, from whose end numbers are taken -/
namespace Fl
open PySem PySem.Spec PyProof.Rows L2
def Dw (d : Addr) (H : Hp) : Prop := ∃ zs : List Int, H d = some (.lst (zs.map V.int)) ∧ zs.length ≤ 10000
theorem Dw.hd {d : Addr} {H : Hp} (h : Dw d H) : H d ≠ none := by
  obtain ⟨zs, e, _⟩ := h
  rw [e]
  simp
theorem Dw.put {d D : Addr} {H : Hp} {o : HO} (h : Dw d H) (n : D ≠ d) : Dw d (upd H D o) := by
  obtain ⟨zs, e, b⟩ := h
  exact ⟨zs, by rw [upd_ne n.symm]; exact e, b⟩
theorem Dw.newH {d p : Addr} {H : Hp} {o : HO} (e : H p = none) (h : Dw d H) : Dw d (upd H p o) := h.put fun k => h.hd (k ▸ e)
theorem Dw.sm {d : Addr} {H H' : Hp} (s : Same H H') (h : Dw d H) : Dw d H' := by
  obtain ⟨zs, e, b⟩ := h
  exact ⟨zs, s _ _ e, b⟩
theorem Dw.fr {d : Addr} {H H' : Hp} {S : List Addr} (s : Fr S H H') (n : d ∉ S) (h : Dw d H) : Dw d H' := by
  obtain ⟨zs, e, b⟩ := h
  exact ⟨zs, s _ _ n e, b⟩
theorem Dw.ned {d p : Addr} {H : Hp} (e : H p = none) (h : Dw d H) : p ≠ d := fun k => h.hd (k ▸ e)
def spDws (K : PySem.W.Frag) : Sp := fun vs H Q _ => ∃ (a : Addr) (ns : List Int), vs = [.ref a] ∧ SqL K H a (ns.map V.int) ∧ ns.length ≤ 63 ∧ ∀ d H', Same H H' → H d = none → Dw d H' → Q (.ref d) H'
theorem dws_app {K : PySem.W.Frag} {a : Addr} {ns : List Int} {H : Hp} {Q : VK} {E : XK} (h : SqL K H a (ns.map V.int)) (hl : ns.length ≤ 63) (q : ∀ d H', Same H H' → H d = none → Dw d H' → Q (.ref d) H') : spDws K [.ref a] H Q E := ⟨a, ns, rfl, h, hl, q⟩
def spTk : Sp := fun vs H Q _ => ∃ (d : Addr) (m : Int), vs = [.ref d, .int m] ∧ Dw d H ∧ 0 < m ∧ ∀ v H', 0 ≤ v → v < m → Dw d H' → On d H H' → Q (.int v) H'
theorem tk_app {d : Addr} {m : Int} {H : Hp} {Q : VK} {E : XK} (h : Dw d H) (hm : 0 < m) (q : ∀ v H', 0 ≤ v → v < m → Dw d H' → On d H H' → Q (.int v) H') : spTk [.ref d, .int m] H Q E := ⟨d, m, rfl, h, hm, q⟩
theorem Same.updN {H H' : Hp} {D : Addr} {o : HO} (hD : H D = none) (h : Same H H') : Same H (upd H' D o) := fun b u e => by
  rw [upd_ne (fun k => by rw [k, hD] at e; cases e)]
  exact h b u e
theorem g_appB {l : Addr} {xs : List V} {y : V} {H : Hp} {Q : VK} (h : H l = some (.lst xs)) (hz : xs.length < 100000) (q : Q .non (upd H l (.lst (xs ++ [y])))) : rAppend (.ref l) [y] H Q := ⟨l, xs, y, rfl, rfl, h, Nat.lt_of_lt_of_le hz (by decide), q⟩
theorem g_bm0 {K : PySem.W.Frag} {T : String} {r : V → List V → Hp → VK → Prop} {to : TE} {σ : L2.St} {H : Hp} {Q : VK} (h : to σ H fun x H1 => tyV K T x H1 ∧ r x [] H1 Q) : tBM0 K T r to σ H Q := h
theorem g_pop {l : Addr} {xs : List V} {y : V} {H : Hp} {Q : VK} (h : H l = some (.lst xs)) (hy : xs[xs.length - 1]? = some y) (q : Q y (upd H l (.lst xs.dropLast))) : rPop (.ref l) [] H Q := ⟨l, xs, y, rfl, rfl, h, hy, q⟩
/-- more integers behind a list of integers -/
theorem ints_snoc {zs : List Int} {z : Int} : zs.map V.int ++ [V.int z] = (zs ++ [z]).map V.int := by simp
theorem picks {α : Type} {f : α → PyData} {Pr : α → Prop} : ∀ {rs : List PyData}, (∀ r, r ∈ rs → ∃ p, r = f p ∧ Pr p) → ∃ ps : List α, rs = ps.map f ∧ ∀ p, p ∈ ps → Pr p
  | [], _ => ⟨[], rfl, fun _ m => nomatch m⟩
  | r :: rs, h => by
    obtain ⟨p, e, hp⟩ := h r (by simp)
    subst e
    obtain ⟨ps, e, hps⟩ := picks (rs := rs) fun r m => h r (by simp [m])
    subst e
    exact ⟨p :: ps, rfl, fun q m => by
      rcases List.mem_cons.mp m with rfl | m
      · exact hp
      · exact hps q m⟩
section
variable {S : List Addr} {H1 : Hp} {K : PySem.W.Frag} {g : TG} {tt : TT} {te : TE} {vs : List Nat} {σ : L2.St} {Q : VK}
/-- [elt for i, x in enumerate(list) if test], nothing changed -/
theorem lcE {a : Addr} {xs : List V} (f : Nat → Option PyData) (hS : Al S H1) (ha : H1 a = some (.lst xs)) (hz : xs.length < 1000)
    (step : ∀ (D : Addr) (i : Nat) (x : V) (T : Addr) (H : Hp), H1 D = none → xs[i]? = some x → Same H1 H → Al (D :: S) H → H T = none →
      ∀ (R : V → Hp → Prop) (N : Hp → Prop), (∀ r y H4, f i = some r → Same (upd H T (.tup [.int (i : Nat), x])) H4 → Dq (D :: S) H4 y r → R y H4) → (f i = none → ∀ H4, Same (upd H T (.tup [.int (i : Nat), x])) H4 → N H4) →
      g (.ref T) (wipe σ vs) (upd H T (.tup [.int (i : Nat), x])) fun σ2 H2 => wipe σ2 vs = wipe σ vs ∧ tt σ2 H2 fun b H3 => if b = true then te σ2 H3 R else N H3)
    (q : ∀ (D : Addr) (H : Hp), Same H1 H → H1 D = none → Dq S H (.ref D) (.list ((List.range xs.length).filterMap f)) → Q (.ref D) H) :
    lcK (Ite K a) g tt te vs σ H1 Q := by
  unfold lcK
  intro D hD
  have hDa : a ≠ D := fun e => by rw [e, hD] at ha; cases ha
  refine lc_it (walk_enum (xs := xs)) (CompAt S H1 D f) (CompAt.zero hD) ?_ ?_ ?_
  · intro i H _ h
    exact SqL.of (h.fr a _ (by simpa using hDa) ha)
  · intro i x H H' hi h ⟨T, y, z, e1, hT, e2, e3, e4⟩
    subst e1 e2
    cases e3
    have hsm : Same H1 H := sm_of hD h.fr
    exact step D i z T H hD e4 hsm (h.al hS hD) hT _ _ (fun r y H4 er s d => h.put (by omega) er ((Fl.Same.new hT).trans s) d) fun en H4 s => (h.same ((Fl.Same.new hT).trans s)).skip en
  · intro H h
    exact q D H (sm_of hD h.fr) hD (h.fin hS hD)
/-- [test for x in dict.values()] -/
theorem lcVT {d : Addr} {od : Obj} {kvs : List (Key × V)} {j : Nat} (p : Nat → Bool) (hd : H1 d = some (.frz od (.dK kvs))) (hz : kvs.length < 1000)
    (step : ∀ (D : Addr) (i : Nat) (k : Key) (x : V) (H : Hp), H1 D = none → kvs[i]? = some (k, x) → Same H1 H → ∀ (R : V → Hp → Prop), R (.bl (p i)) H →
      wipe ((wipe σ vs).set j (some x)) vs = wipe σ vs ∧ te ((wipe σ vs).set j (some x)) H R)
    (q : ∀ (D : Addr) (H : Hp), Same H1 H → H1 D = none → H D = some (.lst (((List.range kvs.length).map p).map V.bl)) → Q (.ref D) H) :
    lcK (Itd d od kvs) (gName j) tYes te vs σ H1 Q := by
  unfold lcK
  intro D hD
  have hDd : d ≠ D := fun e => by rw [e, hD] at hd; cases hd
  refine lc_it (walk_values (kvs := kvs)) (fun i H => H D = some (.lst (((List.range i).map p).map V.bl)) ∧ Fr [D] H1 H) ⟨upd_same, Fr.same (Fl.Same.new hD)⟩ ?_ ?_ ?_
  · intro i H _ h
    exact h.2 d _ (by simpa using hDd) hd
  · intro i x H H' hi ⟨h1, h2⟩ ⟨e1, k, e2⟩
    subst e1
    have st := step D i k x H' hD e2 (sm_of hD h2) (fun y H4 => ∃ acc, H4 D = some (.lst acc) ∧ acc.length < sizeLine ∧ ((upd H4 D (.lst (acc ++ [y]))) D = some (.lst (((List.range (i + 1)).map p).map V.bl)) ∧ Fr [D] H1 (upd H4 D (.lst (acc ++ [y]))))) ?_
    · exact ⟨st.1, st.2⟩
    · refine ⟨_, h1, ?_, ?_, h2.trans (Fr.upd (by simp))⟩
      · have : (1000 : Nat) ≤ sizeLine := by decide
        rw [List.length_map, List.length_map, List.length_range]
        omega
      · rw [upd_same, List.range_succ, List.map_append, List.map_append]
        rfl
  · intro H ⟨h1, h2⟩
    exact q D H (sm_of hD h2) hD h1
end
theorem g_lockE {t : TE} {σ : L2.St} {H : Hp} {Q : VK} {d : Addr} {u : HO} (h : H d = some u) (m : Mut (some u)) (q : ∀ od, t σ (upd H d (.frz od u)) fun v H' => H' d = some (.frz od u) ∧ Q v (upd H' d u)) : tLockE t σ H Q := ⟨d, u, h, m, q⟩
theorem same_lock {H G : Hp} {d : Addr} {u w : HO} (h : H d = some u) (s : Same (upd H d w) G) : Same H (upd G d u) := fun b o e => by
  by_cases n : b = d
  · subst n
    rw [upd_same]
    rw [h] at e
    exact e
  · rw [upd_ne n]
    exact s b o (by rw [upd_ne n]; exact e)
theorem g_ivals {td : TE} {σ : L2.St} {H : Hp} {R : It → Hp → Prop} (h : td σ H fun x H1 => ∃ d o kvs, x = V.ref d ∧ H1 d = some (.frz o (.dK kvs)) ∧ R (Itd d o kvs) H1) : iVals td σ H R := h
theorem ixN_nat {n a : Nat} (h : a < n) : ixN n (a : Int) = some a := by
  unfold ixN
  simp [h]
theorem take_snoc {α : Type} {l : List α} {i : Nat} {x : α} (h : l[i]? = some x) : l.take (i + 1) = l.take i ++ [x] := by
  rw [List.take_add_one, h]
  rfl
end Fl

set_option Elab.async false
set_option linter.all false
set_option maxRecDepth 100000
set_option maxHeartbeats 4000000
/-! a dict of the written part whose keys are tuples of integers: d.get(k) -/
namespace Fl
open PySem PySem.Spec PyProof.Rows L2
/-- at a the written dict with these keys (each with its address) and values -/
structure KTup (K : PySem.W.Frag) (P : Program) (w : World) (a : Addr) (xs : List (List Int × Addr × Value)) : Prop where
  at_ : ∃ es n, K.lookup a = some ⟨.type "dict", none, .dict es n, #[]⟩ ∧ es.toList = xs.map (entryOfKey (TK P w))
  key : ∀ x, x ∈ xs → ∀ H : Hp, SqT K H x.2.1 (x.1.map V.int)
  nd : (xs.map (·.1)).Nodup
  ns : (a == sysModules) = false
def tDGetKT (K : PySem.W.Frag) (P : Program) (w : World) (td ty : TE) : TE := fun σ H Q => td σ H fun x H1 => ∃ a xs, x = .ref a ∧ KTup K P w a xs ∧ ty σ H1 fun y H2 => ∃ b k v, y = .ref b ∧ SqT K H2 b (k.map V.int) ∧ RelV v (((atKey xs k).map (·.2)).getD .none) ∧ Q v H2
section
variable {X : Cx} {pins : List (Addr × Obj)} {σ : L2.St} {H : Hp} {s : Shared} {a b : Addr} {A : Around} {E : Value → Shared → Prop} {xs : List (List Int × Addr × Value)} {k : List Int}
theorem KTup.of (h : KTup X.K X.prog X.w a xs) (I : Inv X pins σ H s) : s.heap.DictOfH (TK X.prog X.w) a xs := by
  obtain ⟨⟨es, n, hl, he⟩, hk, hn, _⟩ := h
  exact ⟨_, es, n, I.kIn _ _ hl, ⟨rfl, rfl, rfl⟩, rfl, he, fun x hx => I.isT (hk x hx H), hn⟩
theorem pe_dgetKT {o e : Expr} {apos cpos : Pos} {td ty : TE} (hu : X.A.units + 1 < cLine) (ho : PE X o td) (he : PE X e ty) (m : M1 X o "get" apos e cpos) : PE X (.Call (.Attribute o "get" apos) [e] [] cpos) (tDGetKT X.K X.prog X.w td ty) := by
  refine ⟨fun pins s σ H Q I h => ?_⟩
  refine wpAny_Call_method m.base m.few m.line PySem.F.plainAttrs_dict PySem.F.slot_dict_get PySem.F.type_dict_get (thn (ho.run pins s σ H _ I h) fun u s1 ⟨x, H1, I1, rx, a, xs, ex, d, q1⟩ => ?_)
  subst ex
  obtain rfl : u = Value.ref a := rx
  have dd := d.of I1
  refine ⟨dd.typeIs, fun b q => ?_, ?_⟩
  · cases q
    obtain ⟨ob, _, _, h1, h2, _⟩ := dd
    exact ⟨ob, h1, h2.2.1⟩
  rw [m.trees]
  refine Calls.callWith_builtin rfl (Calls.evalArgs_plain (Calls.spliced_cons (thn (he.run pins s1 σ H1 _ I1 q1) fun iv s2 ⟨y, H2, I2, ry, b, k, v, ey, hb, rv, q2⟩ => Calls.spliced_nil ?_)))
  subst ey
  obtain rfl : iv = Value.ref b := ry
  have dd2 := d.of I2
  exact call_meetsIn PySem.F.slot_dict_get dd2.typeIs PySem.F.entry_dict_get (PySem.F.args_dict_get_2 _ _) (meetsH_dict_get (TK X.prog X.w) a b d.ns) ⟨tupleKind_room_in1 hu, k, xs, I2.isT hb, dd2, ⟨_, H2, I2.tok _, rv, q2⟩⟩
end
/-- the same where the context is a def's -/
theorem pe_dgetKT' {X : Cx} {K : PySem.W.Frag} {P : Program} {w : World} {o e : Expr} {apos cpos : Pos} {td ty : TE} (e1 : X.K = K) (e2 : X.prog = P) (e3 : X.w = w) (hu : X.A.units + 1 < cLine) (ho : PE X o td) (he : PE X e ty) (m : M1 X o "get" apos e cpos) : PE X (.Call (.Attribute o "get" apos) [e] [] cpos) (tDGetKT K P w td ty) := by
  subst e1 e2 e3
  exact pe_dgetKT hu ho he m
theorem g_dgKT {K : PySem.W.Frag} {P : Program} {w : World} {td ty : TE} {σ : L2.St} {H : Hp} {Q : VK} (h : td σ H fun x H1 => ∃ a xs, x = .ref a ∧ KTup K P w a xs ∧ ty σ H1 fun y H2 => ∃ b k v, y = .ref b ∧ SqT K H2 b (k.map V.int) ∧ RelV v (((atKey xs k).map (·.2)).getD .none) ∧ Q v H2) : tDGetKT K P w td ty σ H Q := h
end Fl

set_option Elab.async false
set_option linter.all false
set_option maxRecDepth 100000
set_option maxHeartbeats 4000000
/-! straight code: its rows, when it is correct -/
namespace Fl
open PySem PySem.Spec PyProof.Rows L2
/-- a call without arguments -/
theorem pe_h0 {X : Cx} {k : Nat} {x : Str} {sp : Sp} {p pos : Pos} (h : Has X.prog X.w X.K X.mg X.base k x [] sp) (hr : Room k X.A) (hg : Gl X x := by rfl) (hdb : (x == ("__debug__" : Str)) = false := by decide) :
    PE X (.Call (.Name x p) [] [] pos) (tCall sp [] E0 tNil) := by
  obtain ⟨f, fd, a, b, c, d⟩ := h.ex
  exact pe_call0 a hr hg b c d .nil pass0 hdb
theorem opCatT {X : Cx} {K : PySem.W.Frag} (e : X.K = K) : OpR X (binaryOp .Add) (rCatT K) := by subst e; exact op_catT
abbrev Rw := Str × List Int
def rwD (r : Rw) : PyData := .tuple (.str r.1 :: r.2.map .int)
def coD (c : List Rw) : PyData := .list (c.map rwD)
theorem ints_dq {S : List Addr} {H : Hp} : ∀ {ns : List Int}, DqA S H (ns.map V.int) (ns.map PyData.int)
  | [] => .nil
  | n :: ns => .cons (.int n) (ints_dq (ns := ns))
theorem rwE {S : List Addr} {H : Hp} {v : V} {r : Rw} (h : Dq S H v (rwD r)) : ∃ a, v = .ref a ∧ a ∉ S ∧ H a = some (.tup (.str r.1 :: r.2.map V.int)) := by
  obtain ⟨a, xs, rfl, n, q, h⟩ := h.tupE
  obtain ⟨v, ws, rfl, hv, h2⟩ := h.consE
  cases hv
  rw [ints_of h2] at q
  exact ⟨a, rfl, n, q⟩
theorem rwI {S : List Addr} {H : Hp} {a : Addr} {r : Rw} (n : a ∉ S) (h : H a = some (.tup (.str r.1 :: r.2.map V.int))) : Dq S H (.ref a) (rwD r) := .tup n h (.cons (.str _) ints_dq)
def stL (l : List String) : List Str := l.map Str.ofString
def tabF : List (Str × List Str) := List.map (fun (p : String × List String) => (Str.ofString p.1, stL p.2)) [("push", ["place", "number"]), ("size", ["place"]), ("take", ["place", "place"]), ("jump", ["skip"]), ("jumpzero", ["place", "skip"]), ("jumpsmall", ["place", "number", "skip"]), ("end", ["many"])]
def tabW : List (Str × List Int) := List.map (fun (p : String × List Int) => (Str.ofString p.1, p.2)) [("push", [0, 1]), ("drop", [1, 0]), ("copy", [1, 2]), ("swap", [2, 2]), ("add", [2, 1]), ("subtract", [2, 1]), ("multiply", [2, 1]), ("divide", [2, 1]), ("negate", [1, 1]), ("amount", [1, 1]), ("lesser", [2, 1]), ("greater", [2, 1]), ("down", [1, 1]), ("up", [1, 1]), ("round", [1, 1]), ("less", [2, 1]), ("atmost", [2, 1]), ("equal", [2, 1]), ("not", [1, 1]), ("and", [2, 1]), ("or", [2, 1]), ("look", [0, 0]), ("go", [0, 0]), ("mode", [0, 0]), ("value", [1, 1]), ("load", [1, 1]), ("setvalue", [2, 0]), ("save", [2, 0]), ("get", [1, 1]), ("origin", [1, 1]), ("move", [2, 0]), ("set", [2, 0]), ("align", [2, 0]), ("between", [0, 0]), ("jump", [0, 0]), ("jumpzero", [1, 0]), ("call", [0, 0]), ("repeat", [1, 0]), ("size", [0, 1])]
def tabB : List (List Int × List Str) := List.map (fun (p : List Int × List String) => (p.1, stL p.2)) [([1, 1], ["place", "place"]), ([2, 1], ["place", "place", "place"]), ([2, 0], ["place", "place"]), ([0, 0], ["number"])]
def callsW : List Str := stL ["call", "repeat"]
def skW : List Str := stL ["jump", "jumpzero", "jumpsmall"]
def allW : List Str := stL ["push", "size", "take", "jump", "jumpzero", "jumpsmall", "end", "drop", "copy", "swap", "add", "subtract", "multiply", "divide", "negate", "amount", "lesser", "greater", "down", "up", "round", "less", "atmost", "equal", "not", "and", "or", "look", "go", "mode", "value", "load", "setvalue", "save", "get", "origin", "move", "set", "align", "between", "call", "repeat", "nothing"]
def fo (w : Str) : Option (List Str) := match tabF.lookup w with
  | some ks => some ks
  | none => match tabW.lookup w with
    | none => none
    | some p => if w ∈ callsW then none else tabB.lookup p
def argOk (k : Str) (n : Int) : Bool := if k = "place" then decide (0 ≤ n ∧ n < 64) else if k = "many" then decide (0 ≤ n ∧ n ≤ 64) else decide (k = "number") || decide (0 ≤ n)
def formed (r : Rw) : Bool := match fo r.1 with
  | none => false
  | some ks => decide (r.2.length = ks.length) && (List.zipWith (fun n k => argOk k n) r.2 ks).all id
def lastN (r : Rw) : Int := r.2.getLast?.getD 0
def rowA (r : Rw) (i last : Int) : Bool := formed r && (decide (r.1 = "end") == decide (i = last)) && !(decide (r.1 ∈ skW) && decide (lastN r > last - i - 1))
def isC (c : List Rw) : Bool := decide (1 ≤ c.length ∧ c.length ≤ 20000) && (List.range c.length).all fun i => rowA (c.getD i ("", [])) i ((c.length : Int) - 1)
theorem walk_zipT {K : PySem.W.Frag} {a b : Addr} {xs ys : List V} {n : Nat} (hn : n = min xs.length ys.length) : Walk (RZ.ItzT K a b) n (fun H => SqT K H a xs ∧ SqT K H b ys) (YPair (fun i => xs[i]?) (fun i => ys[i]?)) := by
  have le1 : n ≤ xs.length := by omega
  have le2 : n ≤ ys.length := by omega
  constructor
  · intro j G hj hlt
    exact ⟨xs, ys, _, _, hlt.1, hlt.2, List.getElem?_eq_getElem (Nat.lt_of_lt_of_le hj le1), List.getElem?_eq_getElem (Nat.lt_of_lt_of_le hj le2)⟩
  · intro G hq
    exact ⟨xs, ys, hq.1, hq.2, by omega⟩
  · intro j G v G' _ hq hy
    obtain ⟨pr, u, z, ev, eG, ep, fu, fz⟩ := hy
    exact ⟨pr, u, z, ev, eG, ep, fu _ hq.1, fz _ hq.2⟩
/-- [elt for x, y in zip(tuple, tuple) if test], nothing changed -/
theorem lcZT {S : List Addr} {H1 : Hp} {K : PySem.W.Frag} {g : TG} {tt : TT} {te : TE} {vs : List Nat} {σ : L2.St} {Q : VK} {a b : Addr} {xs ys : List V} (f : Nat → Option PyData) (hS : Al S H1) (ha : SqT K H1 a xs) (hb : SqT K H1 b ys) (hl : xs.length = ys.length) (hz : xs.length < 1000)
    (step : ∀ (D : Addr) (i : Nat) (x y : V) (T : Addr) (H : Hp), H1 D = none → xs[i]? = some x → ys[i]? = some y → Same H1 H → Al (D :: S) H → H T = none →
      ∀ (R : V → Hp → Prop) (N : Hp → Prop), (∀ r z H4, f i = some r → Same (upd H T (.tup [x, y])) H4 → Dq (D :: S) H4 z r → R z H4) → (f i = none → ∀ H4, Same (upd H T (.tup [x, y])) H4 → N H4) →
      g (.ref T) (wipe σ vs) (upd H T (.tup [x, y])) fun σ2 H2 => wipe σ2 vs = wipe σ vs ∧ tt σ2 H2 fun b H3 => if b = true then te σ2 H3 R else N H3)
    (q : ∀ (D : Addr) (H : Hp), Same H1 H → H1 D = none → Dq S H (.ref D) (.list ((List.range xs.length).filterMap f)) → Q (.ref D) H) :
    lcK (RZ.ItzT K a b) g tt te vs σ H1 Q := by
  unfold lcK
  intro D hD
  refine lc_it (walk_zipT (xs := xs) (ys := ys) (n := xs.length) (by omega)) (CompAt S H1 D f) (CompAt.zero hD) ?_ ?_ ?_
  · intro i H _ h
    exact ⟨Fl.Same.t (sm_of hD h.fr) ha, Fl.Same.t (sm_of hD h.fr) hb⟩
  · intro i x H H' hi h ⟨T, y, z, e1, hT, e2, e3, e4⟩
    subst e1 e2
    have hsm : Same H1 H := sm_of hD h.fr
    exact step D i y z T H hD e3 e4 hsm (h.al hS hD) hT _ _ (fun r y H4 er s d => h.put (by omega) er ((Fl.Same.new hT).trans s) d) fun en H4 s => (h.same ((Fl.Same.new hT).trans s)).skip en
  · intro H h
    exact q D H (sm_of hD h.fr) hD (h.fin hS hD)
theorem bools_of {S : List Addr} {H : Hp} : ∀ {L : List Bool} {xs : List V}, DqA S H xs (L.map PyData.bool) → xs = L.map V.bl
  | [], xs, h => h.nilE
  | b :: L, xs, h => by
    obtain ⟨v, ws, rfl, hv, h⟩ := h.consE
    rw [hv.blE, bools_of h]
    rfl
theorem g_slTF {K : PySem.W.Frag} {a : Addr} {xs : List V} {k : Nat} {H : Hp} {Q : VK} (h : SqT K H a xs) (hk : 0 < k) (hx : xs ≠ []) (q : ∀ p, H p = none → Q (.ref p) (upd H p (.tup (xs.drop k)))) : rSlT K (.ref a) (some (k : Int)) none H Q := by
  refine g_slT h (fun z => ?_) (by rw [cut_from]; exact q)
  have e := z.1
  rw [HT.sIx_nat] at e
  have : 0 < xs.length := List.length_pos_iff.mpr hx
  omega
theorem g_slTT {K : PySem.W.Frag} {a : Addr} {xs : List V} {k : Nat} {H : Hp} {Q : VK} (h : SqT K H a xs) (hk : k < xs.length) (q : ∀ p, H p = none → Q (.ref p) (upd H p (.tup (xs.take k)))) : rSlT K (.ref a) none (some (k : Int)) H Q := by
  refine g_slT h (fun z => ?_) (by rw [cut_to]; exact q)
  have e := z.2
  rw [HT.sIx_nat] at e
  omega
theorem fo_kinds : ∀ w, w ∈ allW → ∀ k, k ∈ (fo w).getD [] → k ∈ (stL ["place", "number", "skip", "many"]) := by decide +kernel
theorem fo_len : ∀ w, w ∈ allW → ((fo w).getD []).length ≤ 3 := by decide +kernel
theorem sk_some : ∀ w, w ∈ allW → w ∈ skW → ∀ ks, fo w = some ks → 0 < ks.length := by
  have h : ∀ w, w ∈ allW → w ∈ skW → 0 < ((fo w).getD ["x"]).length := by decide +kernel
  intro w h1 h2 ks e
  have := h w h1 h2
  rw [e] at this
  exact this
theorem sk_ne {w : Str} {ns : List Int} (hw : w ∈ allW) (hf : formed (w, ns) = true) (hs : w ∈ skW) : ns ≠ [] := by
  intro e
  subst e
  unfold formed at hf
  simp only at hf
  cases h : fo w with
  | none => rw [h] at hf; cases hf
  | some ks =>
    rw [h] at hf
    simp at hf
    have := sk_some w hw hs ks h
    omega
theorem at_last {x : V} {ns : List Int} {w : Str} (h : ns ≠ []) : atI (x :: ns.map V.int) (-1) = some (.int (lastN (w, ns))) := by
  have hp : 0 < ns.length := List.length_pos_iff.mpr h
  have e : ns[ns.length - 1]? = some (lastN (w, ns)) := by
    unfold lastN
    rw [List.getLast?_eq_getElem?, List.getElem?_eq_getElem (by omega)]
    rfl
  have l : (x :: ns.map V.int).length = ns.length + 1 := by simp
  unfold atI ixN
  rw [if_neg (by decide), l, if_pos (by omega)]
  show (x :: ns.map V.int)[((-1 : Int) + ((ns.length + 1 : Nat) : Int)).toNat]? = _
  rw [show ((-1 : Int) + ((ns.length + 1 : Nat) : Int)).toNat = (ns.length - 1) + 1 by omega, List.getElem?_cons_succ, List.getElem?_map, e]
  rfl
/-! promises -/
structure RwIn (r : Rw) : Prop where
  w : r.1 ∈ allW
  n : r.2.length ≤ 40
def fFm (ds : List PyData) (d : PyData) : Prop := ∃ r : Rw, ds = [rwD r] ∧ RwIn r ∧ d = .bool (formed r)
def fIc (ds : List PyData) (d : PyData) : Prop := ∃ c : List Rw, ds = [coD c] ∧ c.length ≤ 100 ∧ (∀ r, r ∈ c → RwIn r) ∧ d = .bool (isC c)
/-! the law's words -/
def w7 : List Str := stL ["push", "size", "take", "jump", "jumpzero", "jumpsmall", "end"]
def f7 : List (Nat × Nat) := [(1, 2), (1, 1), (2, 2), (0, 1), (1, 2), (1, 3), (0, 1)]
def W8 : List (List Str) := List.map stL [["push", "size"], ["drop", "jumpzero", "repeat"], ["copy"], ["swap"], ["look", "go", "mode", "between", "jump", "call"], ["negate", "amount", "down", "up", "round", "not", "value", "load", "get", "origin"], ["add", "subtract", "multiply", "divide", "lesser", "greater", "less", "atmost", "equal", "and", "or"], ["setvalue", "save", "move", "set", "align"]]
def r4 : List Str := stL ["look", "go", "mode", "between", "jump", "call"]
def r5 : List Str := stL ["negate", "amount", "down", "up", "round", "not", "value", "load", "get", "origin"]
def r6 : List Str := stL ["add", "subtract", "multiply", "divide", "lesser", "greater", "less", "atmost", "equal", "and", "or"]
def r7 : List Str := stL ["setvalue", "save", "move", "set", "align"]
def cf (w : Str) : Option (Nat × Nat) := if w ∈ w7 then f7[w7.idxOf w]? else if w ∈ r5 ∨ w ∈ r7 then some (2, 2) else if w ∈ r6 then some (3, 3) else if w ∈ r4 ∧ w ≠ "call" then some (0, 1) else none
def rowB (r : Rw) (i last : Int) : Bool := match cf r.1 with
  | none => false
  | some f => decide (r.2.length = f.2) && ((r.2.take f.1).all fun n => decide (0 ≤ n ∧ n ≤ 63)) && (decide (r.1 = "end") == decide (i = last)) && !(decide (r.1 = "end") && !decide (0 ≤ r.2.getD 0 0 ∧ r.2.getD 0 0 ≤ 64)) && !(decide (r.1 ∈ skW) && (!decide (0 ≤ lastN r) || decide (i + 1 + lastN r > last)))
def cls : List (Option (List Str) × Option (Nat × Nat) × Bool × Bool) := List.map (fun (p : Option (List String) × Option (Nat × Nat) × Bool × Bool) => (p.1.map stL, p.2)) [(some ["place", "number"], some (1, 2), false, false), (some ["place"], some (1, 1), false, false), (some ["place", "place"], some (2, 2), false, false), (some ["place", "place", "place"], some (3, 3), false, false), (some ["number"], some (0, 1), false, false), (some ["skip"], some (0, 1), false, true), (some ["place", "skip"], some (1, 2), false, true), (some ["place", "number", "skip"], some (1, 3), false, true), (some ["many"], some (0, 1), true, false), (none, none, false, false)]
theorem cls_of : ∀ w, w ∈ allW → (fo w, cf w, decide (w = "end"), decide (w ∈ skW)) ∈ cls := by decide +kernel
theorem ap (n : Int) : argOk "place" n = decide (0 ≤ n ∧ n < 64) := by unfold argOk; rw [if_pos rfl]
theorem an (n : Int) : argOk "number" n = true := by unfold argOk; rw [if_neg (by decide), if_neg (by decide), decide_eq_true rfl]; rfl
theorem am (n : Int) : argOk "many" n = decide (0 ≤ n ∧ n ≤ 64) := by unfold argOk; rw [if_neg (by decide), if_pos rfl]
theorem as (n : Int) : argOk "skip" n = decide (0 ≤ n) := by unfold argOk; rw [if_neg (by decide), if_neg (by decide), decide_eq_false (by decide)]; rfl
theorem len4 (ns : List Int) : ns = [] ∨ (∃ a, ns = [a]) ∨ (∃ a b, ns = [a, b]) ∨ (∃ a b c, ns = [a, b, c]) ∨ ∃ a b c d t, ns = a :: b :: c :: d :: t := by
  match ns with
  | [] => exact .inl rfl
  | [a] => exact .inr (.inl ⟨a, rfl⟩)
  | [a, b] => exact .inr (.inr (.inl ⟨a, b, rfl⟩))
  | [a, b, c] => exact .inr (.inr (.inr (.inl ⟨a, b, c, rfl⟩)))
  | a :: b :: c :: d :: t => exact .inr (.inr (.inr (.inr ⟨a, b, c, d, t, rfl⟩)))
theorem rowAB (r : Rw) (hw : r.1 ∈ allW) (i last : Int) : rowA r i last = rowB r i last := by
  obtain ⟨w, ns⟩ := r
  have h := cls_of w hw
  simp only at hw
  simp only [cls, stL, List.map_cons, List.map_nil, Option.map_some, Option.map_none, List.mem_cons, Prod.mk.injEq, List.not_mem_nil, or_false] at h
  rw [Bool.eq_iff_iff]
  rcases h with ⟨h1, h2, h3, h4⟩ | ⟨h1, h2, h3, h4⟩ | ⟨h1, h2, h3, h4⟩ | ⟨h1, h2, h3, h4⟩ | ⟨h1, h2, h3, h4⟩ | ⟨h1, h2, h3, h4⟩ | ⟨h1, h2, h3, h4⟩ | ⟨h1, h2, h3, h4⟩ | ⟨h1, h2, h3, h4⟩ | ⟨h1, h2, h3, h4⟩ <;>
    (unfold rowA rowB formed; simp only [h1, h2, h3, h4]; rcases len4 ns with rfl | ⟨a, rfl⟩ | ⟨a, b, rfl⟩ | ⟨a, b, c, rfl⟩ | ⟨a, b, c, d, t, rfl⟩ <;> simp [ap, an, am, as, lastN, List.zipWith, decide_eq_false_iff_not] <;> first | omega | (simp only [decide_eq_true_eq]; omega) | (rw [decide_eq_true_iff]; omega) | (by_cases h0 : 0 ≤ a <;> simp [h0] <;> omega))
theorem isC_no {c : List Rw} {i : Nat} {r : Rw} (h : c[i]? = some r) (k : rowA r i ((c.length : Int) - 1) = false) : isC c = false := by
  have hi := (List.getElem?_eq_some_iff.mp h).1
  cases e : isC c with
  | false => rfl
  | true =>
    unfold isC at e
    rw [Bool.and_eq_true, List.all_eq_true] at e
    have := e.2 i (List.mem_range.mpr hi)
    rw [show c.getD i ("", []) = r by rw [List.getD_eq_getElem?_getD, h]; rfl, k] at this
    cases this
theorem isC_yes {c : List Rw} (h0 : 1 ≤ c.length ∧ c.length ≤ 20000) (h : ∀ (i : Nat) (r : Rw), c[i]? = some r → rowA r i ((c.length : Int) - 1) = true) : isC c = true := by
  unfold isC
  rw [Bool.and_eq_true, List.all_eq_true]
  refine ⟨decide_eq_true h0, fun i hi => ?_⟩
  have hi := List.mem_range.mp hi
  have e : c[i]? = some c[i] := List.getElem?_eq_getElem hi
  rw [show c.getD i ("", []) = c[i] by rw [List.getD_eq_getElem?_getD, e]; rfl]
  exact h i _ e
theorem isC_len {c : List Rw} (h : ¬ (1 ≤ c.length ∧ c.length ≤ 20000)) : isC c = false := by
  unfold isC
  rw [decide_eq_false h]
  rfl
/-! the dicts of the module -/
structure WdK (K : PySem.W.Frag) (P : Program) (w : World) (mg : Str → Option Value) : Prop where
  gF : mg "FORMS" = some (.ref (adr mg "FORMS"))
  kF : ∃ es n, KDict K w (adr mg "FORMS") es n
  fF : ∀ x, x ∈ allW → ∃ r, PySem.W.nsIn K (adr mg "FORMS") x = some r ∧ ∀ ks, tabF.lookup x = ks → match ks with
    | none => r = none
    | some ks => ∃ t, r = some (.ref t) ∧ ∀ H : Hp, SqT K H t (ks.map V.str)
  gW : mg "WORDS" = some (.ref (adr mg "WORDS"))
  kW : ∃ es n, KDict K w (adr mg "WORDS") es n
  fW : ∀ x, x ∈ allW → ∃ r, PySem.W.nsIn K (adr mg "WORDS") x = some r ∧ ∀ ks, tabW.lookup x = ks → match ks with
    | none => r = none
    | some ks => ∃ t, r = some (.ref t) ∧ ∀ H : Hp, SqT K H t (ks.map V.int)
  gB : mg "FORMS_BY_VALUES" = some (.ref (adr mg "FORMS_BY_VALUES"))
  kB : ∃ xs, KTup K P w (adr mg "FORMS_BY_VALUES") xs ∧ ∀ k : List Int, match tabB.lookup k with
    | none => (atKey xs k).map (·.2) = none
    | some ks => ∃ t, (atKey xs k).map (·.2) = some (.ref t) ∧ ∀ H : Hp, SqT K H t (ks.map V.str)
end Fl

set_option Elab.async false
set_option linter.all false
set_option maxRecDepth 100000
set_option maxHeartbeats 4000000
/-! straight code that is drawn and spoilt -/
namespace Fl
open PySem PySem.Spec PyProof.Rows L2
def strD (ws : List Str) : PyData := .list (ws.map .str)
def w8D : PyData := .list (W8.map strD)
theorem strs_dq {S : List Addr} {H : Hp} : ∀ {ws : List Str}, DqA S H (ws.map V.str) (ws.map PyData.str)
  | [] => .nil
  | x :: ws => .cons (.str x) (strs_dq (ws := ws))
theorem strs_of {S : List Addr} {H : Hp} : ∀ {xs : List V} {ws : List Str}, DqA S H xs (ws.map PyData.str) → xs = ws.map V.str
  | xs, [], h => h.nilE
  | xs, w :: ws, h => by
    obtain ⟨v, vs, rfl, hv, h2⟩ := h.consE
    cases hv
    rw [strs_of h2]
    rfl
theorem w8E {S : List Addr} {H : Hp} {v : V} (h : Dq S H v w8D) : ∃ a xs, v = .ref a ∧ a ∉ S ∧ H a = some (.lst xs) ∧ ∀ (i : Nat) (ws : List Str), W8[i]? = some ws → ∃ l, atI xs (i : Int) = some (.ref l) ∧ l ∉ S ∧ H l = some (.lst (ws.map V.str)) := by
  obtain ⟨a, xs, rfl, na, ha, hX⟩ := h.lstE
  refine ⟨a, xs, rfl, na, ha, fun i ws hi => ?_⟩
  obtain ⟨x, hx, dx⟩ := hX.getD (i := i) (d := strD ws) (by rw [List.getElem?_map, hi]; rfl)
  obtain ⟨l, ys, rfl, nl, hl, hY⟩ := dx.lstE
  rw [strs_of hY] at hl
  exact ⟨l, atI_nat hx, nl, hl⟩
theorem str_at {ws : List Str} {v : Int} (h0 : 0 ≤ v) (h1 : v < ws.length) : ∃ x, x ∈ ws ∧ atI (ws.map V.str) v = some (.str x) := by
  obtain ⟨k, rfl⟩ : ∃ k : Nat, v = (k : Int) := ⟨v.toNat, by omega⟩
  have hk : k < ws.length := by omega
  exact ⟨ws[k], List.getElem_mem hk, atI_nat (by rw [List.getElem?_map, List.getElem?_eq_getElem hk]; rfl)⟩
theorem fo_r5 : ∀ x, x ∈ r5 → x ∈ allW ∧ fo x = some (stL ["place", "place"]) ∧ x ≠ "end" ∧ x ∉ skW := by decide +kernel
theorem fo_r6 : ∀ x, x ∈ r6 → x ∈ allW ∧ fo x = some (stL ["place", "place", "place"]) ∧ x ≠ "end" ∧ x ∉ skW := by decide +kernel
theorem fo_r7 : ∀ x, x ∈ r7 → x ∈ allW ∧ fo x = some (stL ["place", "place"]) ∧ x ≠ "end" ∧ x ∉ skW := by decide +kernel
theorem fo_r4 : ∀ x, x ∈ r4.take 4 → x ∈ allW ∧ fo x = some (stL ["number"]) ∧ x ≠ "end" ∧ x ∉ skW := by decide +kernel
/-- a row that may stand in code, with so many behind it -/
structure RowOk (r : Rw) (left : Int) : Prop where
  w : r.1 ∈ allW
  n : r.2.length ≤ 3
  fm : formed r = true
  ne : r.1 ≠ "end"
  sk : r.1 ∈ skW → lastN r ≤ left - 1
theorem rowA_ok {r : Rw} {left i last : Int} (h : RowOk r left) (hl : left = last - i) (hp : 0 < left) : rowA r i last = true := by
  unfold rowA
  rw [h.fm, decide_eq_false h.ne, decide_eq_false (show ¬ i = last by omega)]
  by_cases k : r.1 ∈ skW
  · have := h.sk k
    rw [decide_eq_true k, decide_eq_false (show ¬ lastN r > last - i - 1 by omega)]
    rfl
  · rw [decide_eq_false k]
    rfl
theorem rowA_end {n : Int} {i last : Int} (h0 : 0 ≤ n) (h1 : n ≤ 64) (hl : i = last) : rowA ("end", [n]) i last = true := by
  have hf : fo "end" = some (stL ["many"]) := by decide +kernel
  have hs : ¬ (("end" : Str) ∈ skW) := by decide +kernel
  unfold rowA formed
  simp only [hf]
  rw [decide_eq_true hl, decide_eq_false hs]
  have : argOk "many" n = true := by rw [am]; exact decide_eq_true ⟨h0, h1⟩
  simp [stL, this]
theorem pl {n : Int} (h0 : 0 ≤ n) (h1 : n < 6) : argOk "place" n = true := by rw [ap]; exact decide_eq_true ⟨h0, by omega⟩
theorem ok_2 {x : Str} {a b left : Int} (h : x ∈ allW ∧ fo x = some (stL ["place", "place"]) ∧ x ≠ "end" ∧ x ∉ skW) (ha : 0 ≤ a) (ha' : a < 6) (hb : 0 ≤ b) (hb' : b < 6) : RowOk (x, [a, b]) left := by
  obtain ⟨h1, h2, h3, h4⟩ := h
  refine ⟨h1, by simp, ?_, h3, fun k => absurd k h4⟩
  unfold formed
  simp only [h2]
  simp [stL, pl ha ha', pl hb hb']
theorem ok_3 {x : Str} {a b c left : Int} (h : x ∈ allW ∧ fo x = some (stL ["place", "place", "place"]) ∧ x ≠ "end" ∧ x ∉ skW) (ha : 0 ≤ a) (ha' : a < 6) (hb : 0 ≤ b) (hb' : b < 6) (hc : 0 ≤ c) (hc' : c < 6) : RowOk (x, [a, b, c]) left := by
  obtain ⟨h1, h2, h3, h4⟩ := h
  refine ⟨h1, by simp, ?_, h3, fun k => absurd k h4⟩
  unfold formed
  simp only [h2]
  simp [stL, pl ha ha', pl hb hb', pl hc hc']
theorem ok_1 {x : Str} {n left : Int} (h : x ∈ allW ∧ fo x = some (stL ["number"]) ∧ x ≠ "end" ∧ x ∉ skW) : RowOk (x, [n]) left := by
  obtain ⟨h1, h2, h3, h4⟩ := h
  refine ⟨h1, by simp, ?_, h3, fun k => absurd k h4⟩
  unfold formed
  simp only [h2]
  simp [stL, an]
theorem w_push : ("push" : Str) ∈ allW ∧ fo "push" = some (stL ["place", "number"]) ∧ ("push" : Str) ≠ "end" ∧ ("push" : Str) ∉ skW := by decide +kernel
theorem w_size : ("size" : Str) ∈ allW ∧ fo "size" = some (stL ["place"]) ∧ ("size" : Str) ≠ "end" ∧ ("size" : Str) ∉ skW := by decide +kernel
theorem w_take : ("take" : Str) ∈ allW ∧ fo "take" = some (stL ["place", "place"]) ∧ ("take" : Str) ≠ "end" ∧ ("take" : Str) ∉ skW := by decide +kernel
theorem w_jump : ("jump" : Str) ∈ allW ∧ fo "jump" = some (stL ["skip"]) ∧ ("jump" : Str) ≠ "end" := by decide +kernel
theorem w_jumpzero : ("jumpzero" : Str) ∈ allW ∧ fo "jumpzero" = some (stL ["place", "skip"]) ∧ ("jumpzero" : Str) ≠ "end" := by decide +kernel
theorem w_jumpsmall : ("jumpsmall" : Str) ∈ allW ∧ fo "jumpsmall" = some (stL ["place", "number", "skip"]) ∧ ("jumpsmall" : Str) ≠ "end" := by decide +kernel
theorem ok_push {a n left : Int} (ha : 0 ≤ a) (ha' : a < 6) : RowOk ("push", [a, n]) left := by
  obtain ⟨h1, h2, h3, h4⟩ := w_push
  refine ⟨h1, by simp, ?_, h3, fun k => absurd k h4⟩
  unfold formed
  simp only [h2]
  simp [stL, pl ha ha', an]
theorem ok_size {a left : Int} (ha : 0 ≤ a) (ha' : a < 6) : RowOk ("size", [a]) left := by
  obtain ⟨h1, h2, h3, h4⟩ := w_size
  refine ⟨h1, by simp, ?_, h3, fun k => absurd k h4⟩
  unfold formed
  simp only [h2]
  simp [stL, pl ha ha']
theorem ok_take {a b left : Int} (ha : 0 ≤ a) (ha' : a < 6) (hb : 0 ≤ b) (hb' : b < 6) : RowOk ("take", [a, b]) left :=
  ok_2 w_take ha ha' hb hb'
theorem sk {n : Int} (h0 : 0 ≤ n) : argOk "skip" n = true := by rw [as]; exact decide_eq_true h0
theorem ok_jump {k left : Int} (hk : 0 ≤ k) (hk' : k ≤ left - 1) : RowOk ("jump", [k]) left := by
  obtain ⟨h1, h2, h3⟩ := w_jump
  refine ⟨h1, by simp, ?_, h3, fun _ => hk'⟩
  unfold formed
  simp only [h2]
  simp [stL, sk hk]
theorem ok_jumpzero {a k left : Int} (ha : 0 ≤ a) (ha' : a < 6) (hk : 0 ≤ k) (hk' : k ≤ left - 1) : RowOk ("jumpzero", [a, k]) left := by
  obtain ⟨h1, h2, h3⟩ := w_jumpzero
  refine ⟨h1, by simp, ?_, h3, fun _ => hk'⟩
  unfold formed
  simp only [h2]
  simp [stL, pl ha ha', sk hk]
theorem ok_jumpsmall {a n k left : Int} (ha : 0 ≤ a) (ha' : a < 6) (hk : 0 ≤ k) (hk' : k ≤ left - 1) : RowOk ("jumpsmall", [a, n, k]) left := by
  obtain ⟨h1, h2, h3⟩ := w_jumpsmall
  refine ⟨h1, by simp, ?_, h3, fun _ => hk'⟩
  unfold formed
  simp only [h2]
  simp [stL, pl ha ha', an, sk hk]
def fWds (ds : List PyData) (d : PyData) : Prop := ds = [] ∧ d = w8D
def spRow : Sp := fun vs H Q _ => ∃ (d s : Addr) (ns : List Int) (left : Int), vs = [.ref d, .int left] ∧ Dk d s ns H ∧ 0 < left ∧
  ∀ t H' r, Fr [d] H H' → Dk d s ns H' → (∀ S, Al S H → d ∈ S → Dq S H' (.ref t) (rwD r)) → RowOk r left → Q (.ref t) H'
end Fl

set_option Elab.async false
set_option linter.all false
set_option maxRecDepth 100000
set_option maxHeartbeats 4000000
/-! the machine's words -/
namespace Fl
open PySem PySem.Spec PyProof.Rows L2
structure WoK (K : PySem.W.Frag) (w : World) (mg : Str → Option Value) : Prop where
  gW : mg "WORDS" = some (.ref (adr mg "WORDS"))
  kW : ∃ es n, KDict K w (adr mg "WORDS") es n
  fW : ∀ x, x ∈ allW → ∃ r, PySem.W.nsIn K (adr mg "WORDS") x = some r ∧ ∀ ks, tabW.lookup x = ks → match ks with
    | none => r = none
    | some ks => ∃ t, r = some (.ref t) ∧ ∀ H : Hp, SqT K H t (ks.map V.int)
def effL : List Pr := [(0, 1), (1, 0), (1, 2), (2, 2), (0, 0), (1, 1), (2, 1), (2, 0)]
/-- what a word takes and puts -/
def eff (x : Str) : Option Pr := ((W8.zip effL).find? fun r => decide (x ∈ r.1)).map (·.2)
theorem eff_tab : ∀ x, x ∈ allW → tabW.lookup x = (eff x).map fun p => [p.1, p.2] := by decide +kernel
/-- max of three -/
def rMax3 : List V → Hp → VK → Prop := fun xs H Q => ∃ i j k, xs = [.int i, .int j, .int k] ∧ Q (.int (if k > (if j > i then j else i) then k else (if j > i then j else i))) H
theorem nu3 (i j k : Int) : nuMax3 (.int i) (.int j) (.int k) = some (.int (if k > (if j > i then j else i) then k else (if j > i then j else i))) := by
  by_cases h : i < j
  · by_cases h2 : j < k <;> simp [nuMax3, nuMax2, h, h2, nuLt, nuCB]
  · by_cases h2 : i < k <;> simp [nuMax3, nuMax2, h, h2, nuLt, nuCB]
theorem clMax3 {X : Cx} (hc : X.calm = true) : CallR X (.builtin "max") rMax3 := by
  intro pins s σ H xs us Q I r h
  obtain ⟨i, j, k, rfl, q⟩ := h
  exact call_max3Nu hc pins s σ H _ us Q I r ⟨_, _, _, _, rfl, nu3 i j k, q⟩
theorem g_cb3 {r : List V → Hp → VK → Prop} {ta tb tc : TE} {σ : L2.St} {H : Hp} {Q : VK} (h : ta σ H fun x H1 => tb σ H1 fun y H2 => tc σ H2 fun z H3 => r [x, y, z] H3 Q) : tCB r (tCons ta (tCons tb (tCons tc tNil))) σ H Q := h
theorem g_max3 {i j k : Int} {H : Hp} {Q : VK} (q : Q (.int (if k > (if j > i then j else i) then k else (if j > i then j else i))) H) : rMax3 [.int i, .int j, .int k] H Q := ⟨i, j, k, rfl, q⟩
end Fl

set_option Elab.async false
set_option linter.all false
set_option maxRecDepth 100000
set_option maxHeartbeats 4000000
set_option exponentiation.threshold 20000
namespace K50
open PySem PySem.Spec PyProof.Rows L2 Fl
-- facts of a place in the heap
local macro_rules | `(tactic| walk_at "fl.ne") => `(tactic| ((with_reducible apply DeckAt.ne'); (focus assumption); walk_at "fl.deck"))
local macro_rules | `(tactic| walk_at "fl.ne") => `(tactic| exact Ne.symm (by assumption))
local macro_rules | `(tactic| walk_at "fl.ne") => `(tactic| assumption)
local macro_rules | `(tactic| walk_at "fl.look") => `(tactic| ((with_reducible apply Fl.Same.t); (focus assumption); walk_at "fl.look"))
local macro_rules | `(tactic| walk_at "fl.look") => `(tactic| ((with_reducible apply Same.seq); (focus assumption); walk_at "fl.look"))
local macro_rules | `(tactic| walk_at "fl.look") => `(tactic| ((with_reducible apply Ex1.t); (focus assumption); (focus walk_at "fl.ne"); walk_at "fl.look"))
local macro_rules | `(tactic| walk_at "fl.look") => `(tactic| ((with_reducible apply Ex1.l); (focus assumption); (focus walk_at "fl.ne"); walk_at "fl.look"))
local macro_rules | `(tactic| walk_at "fl.look") => `(tactic| ((with_reducible apply Fl.Same.t); (focus exact Fl.Same.new (by assumption)); walk_at "fl.look"))
local macro_rules | `(tactic| walk_at "fl.look") => `(tactic| ((with_reducible apply Same.seq); (focus exact Fl.Same.new (by assumption)); walk_at "fl.look"))
local macro_rules | `(tactic| walk_at "fl.look") => `(tactic| ((with_reducible apply Ex1.t); (focus with_reducible exact Ex1.upd); (focus walk_at "fl.ne"); walk_at "fl.look"))
local macro_rules | `(tactic| walk_at "fl.look") => `(tactic| ((with_reducible apply Ex1.l); (focus with_reducible exact Ex1.upd); (focus walk_at "fl.ne"); walk_at "fl.look"))
local macro_rules | `(tactic| walk_at "fl.look") => `(tactic| ((with_reducible apply SqT.of); assumption))
local macro_rules | `(tactic| walk_at "fl.look") => `(tactic| ((with_reducible apply SqL.of); assumption))
local macro_rules | `(tactic| walk_at "fl.look") => `(tactic| (with_reducible exact SqT.of upd_same))
local macro_rules | `(tactic| walk_at "fl.look") => `(tactic| (with_reducible exact SqL.of upd_same))
local macro_rules | `(tactic| walk_at "fl.look") => `(tactic| ((with_reducible show RV _ _ _ _); (with_reducible apply RV.same); (focus exact Fl.Same.new (by assumption)); walk_at "fl.look"))
local macro_rules | `(tactic| walk_at "fl.look") => `(tactic| ((with_reducible show RV _ _ _ _); (with_reducible apply RV.same); (focus assumption); walk_at "fl.look"))
local macro_rules | `(tactic| walk_at "fl.look") => `(tactic| ((with_reducible show RV _ _ _ _); (with_reducible apply RV.ex1); (focus assumption); (focus walk_at "fl.ne"); walk_at "fl.look"))
local macro_rules | `(tactic| walk_at "fl.look") => `(tactic| assumption)
-- arithmetic that an operation asks
local macro_rules | `(tactic| walk_at "fl.side") => `(tactic| exact div62 (by first | assumption | decide | omega) (by first | assumption | decide | omega))
local macro_rules | `(tactic| walk_at "fl.side") => `(tactic| exact divS (by first | assumption | omega) (by first | assumption | omega))
local macro_rules | `(tactic| walk_at "fl.side") => `(tactic| exact divW (by first | assumption | omega) (by first | assumption | omega))
local macro_rules | `(tactic| walk_at "fl.side") => `(tactic| exact mulW (by first | assumption | omega) (by first | assumption | omega))
local macro_rules | `(tactic| walk_at "fl.side") => `(tactic| exact Or.inl (by decide))
local macro_rules | `(tactic| walk_at "fl.side") => `(tactic| (refine ⟨?_, ?_, ?_⟩ <;> decide))
local macro_rules | `(tactic| walk_at "fl.side") => `(tactic| exact Or.inr (by decide))
local macro_rules | `(tactic| walk_at "fl.side") => `(tactic| (simp only [List.length_cons, List.length_nil]; omega))
local macro_rules | `(tactic| walk_at "fl.side") => `(tactic| omega)
local macro_rules | `(tactic| walk_at "fl.side") => `(tactic| assumption)
local macro_rules | `(tactic| walk_at "fl.side") => `(tactic| decide)
local macro_rules | `(tactic| walk_at "fl.kit") => `(tactic| first | exact kit_int_int | exact kit_int_bool | exact kit_int_tuple | exact kit_int_str | exact kit_int_list | exact kit_int_dict | exact kit_bool_int | exact kit_bool_bool | exact kit_bool_tuple | exact kit_bool_str | exact kit_bool_list | exact kit_bool_dict | exact kit_tuple_int | exact kit_tuple_bool | exact kit_tuple_tuple | exact kit_tuple_str | exact kit_tuple_list | exact kit_tuple_dict | exact kit_str_int | exact kit_str_bool | exact kit_str_tuple | exact kit_str_str | exact kit_str_list | exact kit_str_dict | exact kit_list_int | exact kit_list_bool | exact kit_list_tuple | exact kit_list_str | exact kit_list_list | exact kit_list_dict | exact kit_NoneType_int | exact kit_NoneType_bool | exact kit_NoneType_tuple | exact kit_NoneType_str | exact kit_NoneType_list | exact kit_NoneType_dict | exact kit_dict_int | exact kit_dict_bool | exact kit_dict_tuple | exact kit_dict_str | exact kit_dict_list | exact kit_dict_dict)
local macro_rules | `(tactic| walk_at "fl.ty") => `(tactic| (apply TyX.base; apply TyOf.lst; assumption))
local macro_rules | `(tactic| walk_at "fl.ty") => `(tactic| (apply TyX.base; apply TyOf.tup; assumption))
local macro_rules | `(tactic| walk_at "fl.ty") => `(tactic| exact .base (.lst upd_same))
local macro_rules | `(tactic| walk_at "fl.ty") => `(tactic| exact .base (.tup upd_same))
local macro_rules | `(tactic| walk_at "fl.ty") => `(tactic| exact .base (.str _))
local macro_rules | `(tactic| walk_at "fl.ty") => `(tactic| exact .base .non)
local macro_rules | `(tactic| walk_at "fl.ty") => `(tactic| exact .base (.bl _))
local macro_rules | `(tactic| walk_at "fl.ty") => `(tactic| exact .base (.int _))
local macro_rules | `(tactic| walk_at "fl.deck") => `(tactic| (refine DeckAt.same ?_ (by assumption); walk_at "fl.deck"))
local macro_rules | `(tactic| walk_at "fl.deck") => `(tactic| (refine DeckAt.same ?_ (Fl.Same.new (by assumption)); walk_at "fl.deck"))
local macro_rules | `(tactic| walk_at "fl.deck") => `(tactic| assumption)
local macro_rules | `(tactic| walk_at "fl.ex1") => `(tactic| (refine Ex1.trans ?_ (Ex1.of (by assumption)); walk_at "fl.ex1"))
local macro_rules | `(tactic| walk_at "fl.ex1") => `(tactic| (refine Ex1.trans ?_ (by assumption); walk_at "fl.ex1"))
local macro_rules | `(tactic| walk_at "fl.ex1") => `(tactic| (refine Ex1.trans ?_ (Ex1.of (Fl.Same.new (by assumption))); walk_at "fl.ex1"))
local macro_rules | `(tactic| walk_at "fl.ex1") => `(tactic| (refine Ex1.trans ?_ Ex1.upd; walk_at "fl.ex1"))
local macro_rules | `(tactic| walk_at "fl.ex1") => `(tactic| exact Ex1.upd)
local macro_rules | `(tactic| walk_at "fl.ex1") => `(tactic| exact Ex1.refl)
local macro_rules | `(tactic| walk_at "fl.ex1") => `(tactic| assumption)
local macro_rules | `(tactic| walk_at "fl.pre") => `(tactic| first | assumption | trivial | exact ne_of_num (by assumption))
local macro_rules | `(tactic| walk_at "fl.szq") => `(tactic| exact szq_div (k := 41) (by decide) (by omega) (by decide))
local macro_rules | `(tactic| walk_at "fl.szq") => `(tactic| ((with_reducible apply Szq.div); (focus walk_at "fl.szq"); (focus walk_at "fl.szq"); (focus walk_at "fl.pre")))
local macro_rules | `(tactic| walk_at "fl.szq") => `(tactic| ((with_reducible apply Szq.mul); (focus walk_at "fl.szq"); (focus walk_at "fl.szq")))
local macro_rules | `(tactic| walk_at "fl.szq") => `(tactic| ((with_reducible apply Szq.sub); (focus walk_at "fl.szq"); (focus walk_at "fl.szq")))
local macro_rules | `(tactic| walk_at "fl.szq") => `(tactic| ((with_reducible apply Szq.add); (focus walk_at "fl.szq"); (focus walk_at "fl.szq")))
local macro_rules | `(tactic| walk_at "fl.szq") => `(tactic| assumption)
local macro_rules | `(tactic| walk_at "fl.md") => `(tactic| first | assumption | ((with_reducible apply Szq.md); (focus walk_at "fl.szq"); decide))
local macro_rules | `(tactic| walk_at "fl.rat") => `(tactic| exact Rat.div_mul_cancel (ne_of_num (by assumption)))
local macro_rules | `(tactic| walk_at "fl.rat") => `(tactic| exact Rat.mul_div_cancel (ne_of_num (by assumption)))
local macro_rules | `(tactic| walk_at "fl.rat") => `(tactic| exact Rat.add_sub_cancel)
local macro_rules | `(tactic| walk_at "fl.rat") => `(tactic| exact Rat.mul_add _ _ _)
local macro_rules | `(tactic| walk_at "fl.rat") => `(tactic| exact Rat.mul_assoc _ _ _)
local macro_rules | `(tactic| walk_at "fl.rat") => `(tactic| exact Rat.add_assoc _ _ _)
local macro_rules | `(tactic| walk_at "fl.rat") => `(tactic| exact Rat.mul_comm _ _)
local macro_rules | `(tactic| walk_at "fl.rat") => `(tactic| exact Rat.add_comm _ _)
local macro_rules | `(tactic| walk_at "fl.rat") => `(tactic| rfl)
-- one step of a reading
local macro_rules | `(tactic| walk_at "fl.s") => `(tactic| ((with_reducible show ∀ (p : Addr), (_ : Option HO) = none → _); intro _ _))
local macro_rules | `(tactic| walk_at "fl.s") => `(tactic| (with_reducible refine g_iteNF ?_))
local macro_rules | `(tactic| walk_at "fl.s") => `(tactic| (with_reducible refine g_iteNT ?_))
local macro_rules | `(tactic| walk_at "fl.s") => `(tactic| (with_reducible refine g_iteF ?_))
local macro_rules | `(tactic| walk_at "fl.s") => `(tactic| (with_reducible refine g_iteT ?_))
local macro_rules | `(tactic| walk_at "fl.s") => `(tactic| (with_reducible refine g_lstN ?_))
local macro_rules | `(tactic| walk_at "fl.s") => `(tactic| (with_reducible refine g_tupN ?_))
local macro_rules | `(tactic| walk_at "fl.s") => `(tactic| (with_reducible refine g_tup2 ?_))
local macro_rules | `(tactic| walk_at "fl.s") => `(tactic| (with_reducible refine g_nil ?_))
local macro_rules | `(tactic| walk_at "fl.s") => `(tactic| (with_reducible refine g_cons ?_))
local macro_rules | `(tactic| walk_at "fl.s") => `(tactic| ((with_reducible apply ne_app); (focus walk_at "fl.look"); (focus walk_at "fl.look"); (focus walk_at "fl.rat")))
local macro_rules | `(tactic| walk_at "fl.s") => `(tactic| ((with_reducible apply nr_app); (focus walk_at "fl.look"); (focus walk_at "fl.md")))
local macro_rules | `(tactic| walk_at "fl.s") => `(tactic| ((with_reducible apply cq_app); (focus walk_at "fl.look"); (focus walk_at "fl.look"); (focus walk_at "fl.md"); (focus walk_at "fl.md")))
local macro_rules | `(tactic| walk_at "fl.s") => `(tactic| ((with_reducible apply bin_app); (focus walk_at "fl.look"); (focus walk_at "fl.look"); (focus walk_at "fl.md"); (focus walk_at "fl.md"); (focus walk_at "fl.pre"); intro _ _ _ _ _))
local macro_rules | `(tactic| walk_at "fl.s") => `(tactic| ((with_reducible show spRatq _ _ _ _ _); (apply ratq_app); (focus walk_at "fl.side"); (focus walk_at "fl.side"); (focus walk_at "fl.side"); intro _ _ _ _ _))
local macro_rules | `(tactic| walk_at "fl.s") => `(tactic| (with_reducible refine g_callD ?_))
local macro_rules | `(tactic| walk_at "fl.s") => `(tactic| (with_reducible refine sameI_app ?_))
local macro_rules | `(tactic| walk_at "fl.s") => `(tactic| (with_reducible refine isint_app ?_))
local macro_rules | `(tactic| walk_at "fl.s") => `(tactic| ((with_reducible apply near2_app); (focus walk_at "fl.look"); (focus assumption); intro _ _ _ _ _))
local macro_rules | `(tactic| walk_at "fl.s") => `(tactic| ((with_reducible apply down2_app); (focus walk_at "fl.look"); (focus assumption); intro _ _ _ _ _ _))
local macro_rules | `(tactic| walk_at "fl.s") => `(tactic| ((with_reducible apply cmp_app); (focus walk_at "fl.look"); (focus walk_at "fl.look"); (focus assumption); (focus assumption)))
local macro_rules | `(tactic| walk_at "fl.s") => `(tactic| ((with_reducible refine fra_app ?_ ?_ ?_ ?_); (focus walk_at "fl.side"); (focus walk_at "fl.side"); (focus walk_at "fl.side"); intro _ _ _ _ _))
local macro_rules | `(tactic| walk_at "fl.s") => `(tactic| ((with_reducible apply deck_app); (focus walk_at "fl.look"); intro _ _ _ _ _))
local macro_rules | `(tactic| walk_at "fl.s") => `(tactic| ((with_reducible refine big_app ?_ ?_); (focus walk_at "fl.deck"); intro _ _ _ _ _ _ _ _ _))
local macro_rules | `(tactic| walk_at "fl.s") => `(tactic| ((with_reducible refine draw_app ?_ ?_ ?_ ?_); (focus walk_at "fl.deck"); (focus walk_at "fl.side"); (focus walk_at "fl.side"); intro _ _ _ _ _ _))
local macro_rules | `(tactic| walk_at "fl.s") => `(tactic| (with_reducible refine g_call ?_))
local macro_rules | `(tactic| walk_at "fl.s") => `(tactic| (with_reducible refine g_drop ?_))
local macro_rules | `(tactic| walk_at "fl.s") => `(tactic| (with_reducible refine g_ipI ?_))
local macro_rules | `(tactic| walk_at "fl.s") => `(tactic| ((with_reducible apply g_aug); (focus rfl)))
local macro_rules | `(tactic| walk_at "fl.s") => `(tactic| (with_reducible refine g_set ?_))
local macro_rules | `(tactic| walk_at "fl.s") => `(tactic| ((with_reducible apply g_setL); (focus first | assumption | exact upd_same); (focus rfl)))
local macro_rules | `(tactic| walk_at "fl.s") => `(tactic| (with_reducible refine g_setS ?_))
local macro_rules | `(tactic| walk_at "fl.s") => `(tactic| (with_reducible refine g_if ?_))
local macro_rules | `(tactic| walk_at "fl.s") => `(tactic| (with_reducible refine g_ret ?_))
local macro_rules | `(tactic| walk_at "fl.s") => `(tactic| (with_reducible refine g_next ?_))
local macro_rules | `(tactic| walk_at "fl.s") => `(tactic| (with_reducible refine g_notV ?_))
local macro_rules | `(tactic| walk_at "fl.s") => `(tactic| (with_reducible refine g_orV ?_))
local macro_rules | `(tactic| walk_at "fl.s") => `(tactic| (with_reducible refine g_andV ?_))
local macro_rules | `(tactic| walk_at "fl.s") => `(tactic| (with_reducible refine g_or ?_))
local macro_rules | `(tactic| walk_at "fl.s") => `(tactic| (with_reducible refine g_and ?_))
local macro_rules | `(tactic| walk_at "fl.s") => `(tactic| (with_reducible refine g_not ?_))
local macro_rules | `(tactic| walk_at "fl.s") => `(tactic| (with_reducible refine g_ex ?_))
local macro_rules | `(tactic| walk_at "fl.s") => `(tactic| (with_reducible refine g_bl ?_))
local macro_rules | `(tactic| walk_at "fl.s") => `(tactic| (with_reducible refine g_B ?_))
local macro_rules | `(tactic| walk_at "fl.s") => `(tactic| (with_reducible refine g_test ?_))
local macro_rules | `(tactic| walk_at "fl.s") => `(tactic| (with_reducible refine g_eqB ?_))
local macro_rules | `(tactic| walk_at "fl.s") => `(tactic| (with_reducible refine g_neI ?_))
local macro_rules | `(tactic| walk_at "fl.s") => `(tactic| (with_reducible refine g_eqI ?_))
local macro_rules | `(tactic| walk_at "fl.s") => `(tactic| ((with_reducible refine g_tup2 ?_)))
local macro_rules | `(tactic| walk_at "fl.s") => `(tactic| ((with_reducible refine g_new ?_ ?_); (focus walk_at "fl.side"); intro _ _))
local macro_rules | `(tactic| walk_at "fl.s") => `(tactic| ((with_reducible apply g_listL); (focus walk_at "fl.look"); intro _ _))
local macro_rules | `(tactic| walk_at "fl.s") => `(tactic| ((with_reducible apply g_isiT); (focus walk_at "fl.ty"); (focus walk_at "fl.kit")))
local macro_rules | `(tactic| walk_at "fl.s") => `(tactic| (with_reducible refine g_gcd ?_))
local macro_rules | `(tactic| walk_at "fl.s") => `(tactic| ((with_reducible apply g_lenT); (focus walk_at "fl.look")))
local macro_rules | `(tactic| walk_at "fl.s") => `(tactic| ((with_reducible apply g_lenL); (focus walk_at "fl.look")))
local macro_rules | `(tactic| walk_at "fl.s") => `(tactic| (with_reducible refine g_min ?_))
local macro_rules | `(tactic| walk_at "fl.s") => `(tactic| (with_reducible refine g_max ?_))
local macro_rules | `(tactic| walk_at "fl.s") => `(tactic| (with_reducible refine g_abs ?_))
local macro_rules | `(tactic| walk_at "fl.s") => `(tactic| (with_reducible refine g_intB ?_))
local macro_rules | `(tactic| walk_at "fl.s") => `(tactic| (with_reducible refine g_int ?_))
local macro_rules | `(tactic| walk_at "fl.s") => `(tactic| (with_reducible refine g_cb2 ?_))
local macro_rules | `(tactic| walk_at "fl.s") => `(tactic| (with_reducible refine g_cb1 ?_))
local macro_rules | `(tactic| walk_at "fl.s") => `(tactic| ((with_reducible apply g_ixT); (focus walk_at "fl.look"); (focus first | assumption | rfl)))
local macro_rules | `(tactic| walk_at "fl.s") => `(tactic| ((with_reducible apply g_ixL); (focus walk_at "fl.look"); (focus first | assumption | rfl)))
local macro_rules | `(tactic| walk_at "fl.s") => `(tactic| (with_reducible refine g_un ?_))
local macro_rules | `(tactic| walk_at "fl.s") => `(tactic| (with_reducible refine g_U ?_))
local macro_rules | `(tactic| walk_at "fl.s") => `(tactic| ((with_reducible apply g_I); (focus walk_at "fl.side")))
local macro_rules | `(tactic| walk_at "fl.s") => `(tactic| (with_reducible refine g_I0 ?_))
local macro_rules | `(tactic| walk_at "fl.s") => `(tactic| (with_reducible refine g_c ?_))
local macro_rules | `(tactic| walk_at "fl.s") => `(tactic| ((with_reducible apply g_var); (focus rfl)))
local macro_rules | `(tactic| walk_at "fl.s") => `(tactic| (with_reducible refine g_op ?_))
local macro_rules | `(tactic| walk_at "fl.s") => `(tactic| (with_reducible refine g_seq ?_))
local macro_rules | `(tactic| walk_at "fl.go") => `(tactic| repeat walk_at "fl.s")
local macro_rules | `(tactic| walk_at "fl.run") => `(tactic| ((repeat walk_at "fl.s"); try (first
  | (refine g_ite (fun _ => ?_) (fun _ => ?_); all_goals walk_at "fl.run")
  | (refine g_iteN (fun _ => ?_) (fun _ => ?_); all_goals walk_at "fl.run"))))

local macro_rules | `(tactic| walk_at "fl.raw") => `(tactic| ((with_reducible apply raw_frd); (focus assumption); (focus walk_at "fl.nd"); walk_at "fl.raw"))
local macro_rules | `(tactic| walk_at "fl.raw") => `(tactic| ((with_reducible apply raw_on); (focus assumption); (focus walk_at "fl.nd"); walk_at "fl.raw"))
local macro_rules | `(tactic| walk_at "fl.raw") => `(tactic| ((with_reducible apply raw_same); (focus assumption); walk_at "fl.raw"))
local macro_rules | `(tactic| walk_at "fl.raw") => `(tactic| ((with_reducible apply raw_new); (focus assumption); walk_at "fl.raw"))
local macro_rules | `(tactic| walk_at "fl.raw") => `(tactic| exact upd_same)
local macro_rules | `(tactic| walk_at "fl.raw") => `(tactic| assumption)
local macro_rules | `(tactic| walk_at "fl.nd") => `(tactic| exact Dk.ned2 (by assumption) (by assumption))
local macro_rules | `(tactic| walk_at "fl.nd") => `(tactic| assumption)
local macro_rules | `(tactic| walk_at "fl.frd") => `(tactic| ((with_reducible apply Fl.Fr.frT); (focus assumption); walk_at "fl.frd"))
local macro_rules | `(tactic| walk_at "fl.frd") => `(tactic| ((with_reducible apply Fl.Fr.smT); (focus assumption); walk_at "fl.frd"))
local macro_rules | `(tactic| walk_at "fl.frd") => `(tactic| ((with_reducible apply Fl.Fr.ond); (focus assumption); walk_at "fl.frd"))
local macro_rules | `(tactic| walk_at "fl.frd") => `(tactic| ((with_reducible apply Fl.Fr.newT); (focus assumption); walk_at "fl.frd"))
local macro_rules | `(tactic| walk_at "fl.frd") => `(tactic| exact Fl.Fr.refl)
local macro_rules | `(tactic| walk_at "fl.frd") => `(tactic| assumption)
local macro_rules | `(tactic| walk_at "fl.lk") => `(tactic| ((with_reducible apply SqT.of); walk_at "fl.raw"))
local macro_rules | `(tactic| walk_at "fl.lk") => `(tactic| ((with_reducible apply SqL.of); walk_at "fl.raw"))
local macro_rules | `(tactic| walk_at "fl.dq") => `(tactic| ((with_reducible apply Dq.frd); (focus assumption); (focus first | assumption | simp); walk_at "fl.dq"))
local macro_rules | `(tactic| walk_at "fl.dq") => `(tactic| ((with_reducible apply Dq.ond); (focus assumption); (focus first | assumption | simp); walk_at "fl.dq"))
local macro_rules | `(tactic| walk_at "fl.dq") => `(tactic| ((with_reducible apply Dq.sm); (focus assumption); walk_at "fl.dq"))
local macro_rules | `(tactic| walk_at "fl.dq") => `(tactic| ((with_reducible apply Dq.newH); (focus assumption); walk_at "fl.dq"))
local macro_rules | `(tactic| walk_at "fl.dq") => `(tactic| exact Dq.non)
local macro_rules | `(tactic| walk_at "fl.dq") => `(tactic| exact Dq.bl _)
local macro_rules | `(tactic| walk_at "fl.dq") => `(tactic| exact Dq.int _)
local macro_rules | `(tactic| walk_at "fl.dq") => `(tactic| assumption)
local macro_rules | `(tactic| walk_at "fl.dqa") => `(tactic| ((with_reducible apply DqA.sm); (focus assumption); walk_at "fl.dqa"))
local macro_rules | `(tactic| walk_at "fl.dqa") => `(tactic| ((with_reducible apply DqA.newH); (focus assumption); walk_at "fl.dqa"))
local macro_rules | `(tactic| walk_at "fl.dqa") => `(tactic| ((with_reducible apply DqA.cons); (focus walk_at "fl.dq"); walk_at "fl.dqa"))
local macro_rules | `(tactic| walk_at "fl.dqa") => `(tactic| exact DqA.nil)
local macro_rules | `(tactic| walk_at "fl.dqa") => `(tactic| assumption)
local macro_rules | `(tactic| walk_at "fl.al") => `(tactic| ((with_reducible apply Al.frd); (focus assumption); (focus assumption); walk_at "fl.al"))
local macro_rules | `(tactic| walk_at "fl.al") => `(tactic| ((with_reducible apply Al.ond); (focus assumption); (focus assumption); walk_at "fl.al"))
local macro_rules | `(tactic| walk_at "fl.al") => `(tactic| ((with_reducible apply Al.sm); (focus assumption); walk_at "fl.al"))
local macro_rules | `(tactic| walk_at "fl.al") => `(tactic| ((with_reducible apply Al.newH); (focus assumption); walk_at "fl.al"))
local macro_rules | `(tactic| walk_at "fl.al") => `(tactic| exact Al.nil)
local macro_rules | `(tactic| walk_at "fl.al") => `(tactic| assumption)
local macro_rules | `(tactic| walk_at "fl.sm") => `(tactic| ((with_reducible apply Fl.Same.sm); (focus assumption); walk_at "fl.sm"))
local macro_rules | `(tactic| walk_at "fl.sm") => `(tactic| ((with_reducible apply Fl.Same.newT); (focus assumption); walk_at "fl.sm"))
local macro_rules | `(tactic| walk_at "fl.sm") => `(tactic| exact L2.Same.refl _)
local macro_rules | `(tactic| walk_at "fl.sm") => `(tactic| assumption)
local macro_rules | `(tactic| walk_at "fl.dk") => `(tactic| ((with_reducible apply Dk.sm); (focus assumption); walk_at "fl.dk"))
local macro_rules | `(tactic| walk_at "fl.dk") => `(tactic| ((with_reducible apply Dk.newH); (focus assumption); walk_at "fl.dk"))
local macro_rules | `(tactic| walk_at "fl.dk") => `(tactic| assumption)
local macro_rules | `(tactic| walk_at "fl.cz") => `(tactic| ((try simp only [List.length_drop, List.length_take, List.length_append, List.length_cons, List.length_nil, List.length_map, List.length_reverse, List.length_dropLast]); omega))
-- readings with plain lookups first, then the older steps
local macro_rules | `(tactic| walk_at "fl.t") => `(tactic| walk_at "fl.s")
local macro_rules | `(tactic| walk_at "fl.t") => `(tactic| ((with_reducible apply g_ez); (focus walk_at "fl.lk"); (focus walk_at "fl.lk")))
local macro_rules | `(tactic| walk_at "fl.t") => `(tactic| ((with_reducible apply g_el); (focus walk_at "fl.lk")))
local macro_rules | `(tactic| walk_at "fl.t") => `(tactic| ((with_reducible apply g_e2); (focus (refine ⟨?_, ?_, ?_, ?_⟩ <;> walk_at "fl.cz"))))
local macro_rules | `(tactic| walk_at "fl.t") => `(tactic| ((with_reducible apply g_e1); (focus walk_at "fl.cz"); (focus walk_at "fl.cz")))
local macro_rules | `(tactic| walk_at "fl.t") => `(tactic| (with_reducible refine g_zip ?_))
local macro_rules | `(tactic| walk_at "fl.t") => `(tactic| (with_reducible refine g_il ?_))
local macro_rules | `(tactic| walk_at "fl.t") => `(tactic| (with_reducible refine g_rng2 ?_))
local macro_rules | `(tactic| walk_at "fl.t") => `(tactic| (with_reducible refine g_rng1 ?_))
local macro_rules | `(tactic| walk_at "fl.t") => `(tactic| (with_reducible refine g_for ?_))
local macro_rules | `(tactic| walk_at "fl.t") => `(tactic| (with_reducible refine g_lc ?_))
local macro_rules | `(tactic| walk_at "fl.t") => `(tactic| ((with_reducible apply g_ext); (focus walk_at "fl.raw"); (focus walk_at "fl.raw"); (focus walk_at "fl.cz")))
local macro_rules | `(tactic| walk_at "fl.t") => `(tactic| ((with_reducible apply g_app); (focus walk_at "fl.raw"); (focus walk_at "fl.cz")))
local macro_rules | `(tactic| walk_at "fl.t") => `(tactic| ((with_reducible apply g_tyL); (focus walk_at "fl.lk")))
local macro_rules | `(tactic| walk_at "fl.t") => `(tactic| (with_reducible refine g_bm ?_))
local macro_rules | `(tactic| walk_at "fl.t") => `(tactic| (with_reducible refine g_gnil ?_))
local macro_rules | `(tactic| walk_at "fl.t") => `(tactic| (with_reducible refine g_gcons ?_))
local macro_rules | `(tactic| walk_at "fl.t") => `(tactic| ((with_reducible apply g_gtup); (focus walk_at "fl.lk"); (focus rfl)))
local macro_rules | `(tactic| walk_at "fl.t") => `(tactic| (with_reducible refine g_yes ?_))
local macro_rules | `(tactic| walk_at "fl.t") => `(tactic| ((with_reducible apply g_tru1); (focus walk_at "fl.lk")))
local macro_rules | `(tactic| walk_at "fl.t") => `(tactic| ((with_reducible apply g_tru0); (focus walk_at "fl.lk")))
local macro_rules | `(tactic| walk_at "fl.t") => `(tactic| (with_reducible refine g_tru ?_))
local macro_rules | `(tactic| walk_at "fl.t") => `(tactic| (with_reducible refine g_nn ?_))
local macro_rules | `(tactic| walk_at "fl.t") => `(tactic| ((with_reducible apply g_sum); (focus walk_at "fl.lk")))
local macro_rules | `(tactic| walk_at "fl.t") => `(tactic| ((with_reducible apply g_maxL); (focus walk_at "fl.lk"); (focus assumption)))
local macro_rules | `(tactic| walk_at "fl.t") => `(tactic| ((with_reducible apply g_minL); (focus walk_at "fl.lk"); (focus assumption)))
local macro_rules | `(tactic| walk_at "fl.t") => `(tactic| (with_reducible refine g_name ?_))
local macro_rules | `(tactic| walk_at "fl.t") => `(tactic| ((with_reducible refine g_sz ?_ ?_); (focus walk_at "fl.cz")))
local macro_rules | `(tactic| walk_at "fl.t") => `(tactic| ((with_reducible apply dk_app); (focus assumption); intro _ _ _ _ _))
local macro_rules | `(tactic| walk_at "fl.t") => `(tactic| ((with_reducible apply dr_app); (focus walk_at "fl.dk"); (focus first | (with_reducible assumption) | omega | walk_at "fl.side"); (focus first | (with_reducible assumption) | omega | walk_at "fl.side"); intro _ _ _ _ _ _))
local macro_rules | `(tactic| walk_at "fl.t") => `(tactic| ((with_reducible apply g_cat); (focus walk_at "fl.raw"); (focus walk_at "fl.raw"); (focus walk_at "fl.cz"); intro _ _))
local macro_rules | `(tactic| walk_at "fl.t") => `(tactic| ((with_reducible apply g_sl2); (focus walk_at "fl.lk"); intro _ _))
local macro_rules | `(tactic| walk_at "fl.t") => `(tactic| ((with_reducible apply g_slTo); (focus walk_at "fl.lk"); intro _ _))
local macro_rules | `(tactic| walk_at "fl.t") => `(tactic| ((with_reducible apply g_slF); (focus walk_at "fl.lk"); intro _ _))
local macro_rules | `(tactic| walk_at "fl.t") => `(tactic| ((with_reducible apply g_slE); (focus walk_at "fl.lk"); intro _ _))
local macro_rules | `(tactic| walk_at "fl.t") => `(tactic| ((with_reducible apply g_slB); (focus walk_at "fl.lk"); intro _ _))
local macro_rules | `(tactic| walk_at "fl.t") => `(tactic| ((with_reducible apply g_slT1); (focus walk_at "fl.lk"); intro _ _))
local macro_rules | `(tactic| walk_at "fl.t") => `(tactic| ((with_reducible apply g_slF1); (focus walk_at "fl.lk"); intro _ _))
local macro_rules | `(tactic| walk_at "fl.t") => `(tactic| (with_reducible refine g_ei ?_))
local macro_rules | `(tactic| walk_at "fl.t") => `(tactic| (with_reducible refine g_nop ?_))
local macro_rules | `(tactic| walk_at "fl.t") => `(tactic| (with_reducible refine g_part ?_))
local macro_rules | `(tactic| walk_at "fl.t") => `(tactic| (with_reducible refine g_sl ?_))
local macro_rules | `(tactic| walk_at "fl.t") => `(tactic| ((with_reducible apply g_listL); (focus walk_at "fl.lk"); intro _ _))
local macro_rules | `(tactic| walk_at "fl.t") => `(tactic| ((with_reducible apply g_lenT); (focus walk_at "fl.lk")))
local macro_rules | `(tactic| walk_at "fl.t") => `(tactic| ((with_reducible apply g_lenL); (focus walk_at "fl.lk")))
local macro_rules | `(tactic| walk_at "fl.t") => `(tactic| ((with_reducible apply g_ixT); (focus walk_at "fl.lk"); (focus first | assumption | rfl)))
local macro_rules | `(tactic| walk_at "fl.t") => `(tactic| ((with_reducible apply g_ixL); (focus walk_at "fl.lk"); (focus first | assumption | exact at0 | rfl)))
local macro_rules | `(tactic| walk_at "fl.w") => `(tactic| repeat walk_at "fl.t")
local macro_rules | `(tactic| walk_at "fl.wr") => `(tactic| ((repeat walk_at "fl.t"); try (first
  | (refine g_ite (fun _ => ?_) (fun _ => ?_); all_goals walk_at "fl.wr")
  | (refine g_iteN (fun _ => ?_) (fun _ => ?_); all_goals walk_at "fl.wr"))))

local macro_rules | `(tactic| walk_at "fl.t") => `(tactic| (with_reducible refine g_eqS ?_))
local macro_rules | `(tactic| walk_at "fl.t") => `(tactic| ((with_reducible apply g_lrev2); (focus walk_at "fl.lk"); intro _ _))
local macro_rules | `(tactic| walk_at "fl.t") => `(tactic| (with_reducible refine g_lrev ?_))
local macro_rules | `(tactic| walk_at "fl.t") => `(tactic| ((with_reducible apply g_slR0); (focus walk_at "fl.lk"); intro _ _))
local macro_rules | `(tactic| walk_at "fl.w") => `(tactic| repeat walk_at "fl.t")

def topS (i : Nat) : Stmt := PySem.Challenge.pw_fleuron_k50_whole_least_tables.main.body.getD i (.Pass ⟨0, 0, 0, 0⟩)
abbrev s_tuples_of : Stmt := topS 4
abbrev N_tuples_of : List Str := ["rows", "row"]
abbrev ps_tuples_of : List Str := ["rows"]
theorem sc_tuples_of : FnScope N_tuples_of ps_tuples_of (defScope s_tuples_of) := ⟨rfl, rfl, rfl, by decide +kernel, rfl, by decide +kernel, by decide +kernel⟩
theorem bd_tuples_of (kV doc pm : Value) (an : Option Addr) (cdv ct : Value) (us : List Value) (h : us.length = ps_tuples_of.length) : bindArgs (PySem.W.fnOf "tuples_of" "tuples_of" (defArgs s_tuples_of) (defBody s_tuples_of) (defScope s_tuples_of) .none kV doc pm an cdv ct) ⟨us, []⟩ = pure (ps_tuples_of.zip us) := match us, h with | [_], _ => rfl
abbrev s_Program : Stmt := inClass (topS 14) 0
abbrev N_Program : List Str := ["self", "main", "functions", "presets", "size", "function"]
abbrev ps_Program : List Str := ["self", "main", "functions", "presets", "size"]
theorem sc_Program : FnScope N_Program ps_Program (defScope s_Program) := ⟨rfl, rfl, rfl, by decide +kernel, rfl, by decide +kernel, by decide +kernel⟩
abbrev s_kept : Stmt := topS 15
abbrev N_kept : List Str := ["n"]
abbrev ps_kept : List Str := ["n"]
theorem sc_kept : FnScope N_kept ps_kept (defScope s_kept) := ⟨rfl, rfl, rfl, by decide +kernel, rfl, by decide +kernel, by decide +kernel⟩
theorem bd_kept (kV doc pm : Value) (an : Option Addr) (cdv ct : Value) (us : List Value) (h : us.length = ps_kept.length) : bindArgs (PySem.W.fnOf "kept" "kept" (defArgs s_kept) (defBody s_kept) (defScope s_kept) .none kV doc pm an cdv ct) ⟨us, []⟩ = pure (ps_kept.zip us) := match us, h with | [_], _ => rfl
abbrev s_kept_code : Stmt := topS 16
abbrev N_kept_code : List Str := ["code", "word", "number"]
abbrev ps_kept_code : List Str := ["code"]
theorem sc_kept_code : FnScope N_kept_code ps_kept_code (defScope s_kept_code) := ⟨rfl, rfl, rfl, by decide +kernel, rfl, by decide +kernel, by decide +kernel⟩
theorem bd_kept_code (kV doc pm : Value) (an : Option Addr) (cdv ct : Value) (us : List Value) (h : us.length = ps_kept_code.length) : bindArgs (PySem.W.fnOf "kept_code" "kept_code" (defArgs s_kept_code) (defBody s_kept_code) (defScope s_kept_code) .none kV doc pm an cdv ct) ⟨us, []⟩ = pure (ps_kept_code.zip us) := match us, h with | [_], _ => rfl
abbrev s_judge_table : Stmt := topS 20
abbrev N_judge_table : List Str := ["code", "costs", "table", "steps", "need", "peak", "at", "way", "cost"]
abbrev ps_judge_table : List Str := ["code", "costs", "table"]
theorem sc_judge_table : FnScope N_judge_table ps_judge_table (defScope s_judge_table) := ⟨rfl, rfl, rfl, by decide +kernel, rfl, by decide +kernel, by decide +kernel⟩
theorem bd_judge_table (kV doc pm : Value) (an : Option Addr) (cdv ct : Value) (us : List Value) (h : us.length = ps_judge_table.length) : bindArgs (PySem.W.fnOf "judge_table" "judge_table" (defArgs s_judge_table) (defBody s_judge_table) (defScope s_judge_table) .none kV doc pm an cdv ct) ⟨us, []⟩ = pure (ps_judge_table.zip us) := match us, h with | [_, _, _], _ => rfl
abbrev s_judge_tables : Stmt := topS 21
abbrev N_judge_tables : List Str := ["program", "tables", "costs", "code", "table", "cost"]
abbrev ps_judge_tables : List Str := ["program", "tables"]
theorem sc_judge_tables : FnScope N_judge_tables ps_judge_tables (defScope s_judge_tables) := ⟨rfl, rfl, rfl, by decide +kernel, rfl, by decide +kernel, by decide +kernel⟩
theorem bd_judge_tables (kV doc pm : Value) (an : Option Addr) (cdv ct : Value) (us : List Value) (h : us.length = ps_judge_tables.length) : bindArgs (PySem.W.fnOf "judge_tables" "judge_tables" (defArgs s_judge_tables) (defBody s_judge_tables) (defScope s_judge_tables) .none kV doc pm an cdv ct) ⟨us, []⟩ = pure (ps_judge_tables.zip us) := match us, h with | [_, _], _ => rfl
abbrev s_make_tables : Stmt := topS 22
abbrev N_make_tables : List Str := ["program", "tables", "costs", "number", "code", "table"]
abbrev ps_make_tables : List Str := ["program"]
theorem sc_make_tables : FnScope N_make_tables ps_make_tables (defScope s_make_tables) := ⟨rfl, rfl, rfl, by decide +kernel, rfl, by decide +kernel, by decide +kernel⟩
theorem bd_make_tables (kV doc pm : Value) (an : Option Addr) (cdv ct : Value) (us : List Value) (h : us.length = ps_make_tables.length) : bindArgs (PySem.W.fnOf "make_tables" "make_tables" (defArgs s_make_tables) (defBody s_make_tables) (defScope s_make_tables) .none kV doc pm an cdv ct) ⟨us, []⟩ = pure (ps_make_tables.zip us) := match us, h with | [_], _ => rfl
abbrev s_begins_and_ends : Stmt := topS 23
abbrev N_begins_and_ends : List Str := ["code", "table", "item"]
abbrev ps_begins_and_ends : List Str := ["code", "table"]
theorem sc_begins_and_ends : FnScope N_begins_and_ends ps_begins_and_ends (defScope s_begins_and_ends) := ⟨rfl, rfl, rfl, by decide +kernel, rfl, by decide +kernel, by decide +kernel⟩
theorem bd_begins_and_ends (kV doc pm : Value) (an : Option Addr) (cdv ct : Value) (us : List Value) (h : us.length = ps_begins_and_ends.length) : bindArgs (PySem.W.fnOf "begins_and_ends" "begins_and_ends" (defArgs s_begins_and_ends) (defBody s_begins_and_ends) (defScope s_begins_and_ends) .none kV doc pm an cdv ct) ⟨us, []⟩ = pure (ps_begins_and_ends.zip us) := match us, h with | [_, _], _ => rfl
abbrev s_way_on : Stmt := topS 24
abbrev N_way_on : List Str := ["code", "at", "item", "costs", "word", "number", "takes", "puts", "height", "steps", "behind", "cost", "need", "change", "peak", "longest", "rounds", "peak_above"]
abbrev ps_way_on : List Str := ["code", "at", "item", "costs"]
theorem sc_way_on : FnScope N_way_on ps_way_on (defScope s_way_on) := ⟨rfl, rfl, rfl, by decide +kernel, rfl, by decide +kernel, by decide +kernel⟩
theorem bd_way_on (kV doc pm : Value) (an : Option Addr) (cdv ct : Value) (us : List Value) (h : us.length = ps_way_on.length) : bindArgs (PySem.W.fnOf "way_on" "way_on" (defArgs s_way_on) (defBody s_way_on) (defScope s_way_on) .none kV doc pm an cdv ct) ⟨us, []⟩ = pure (ps_way_on.zip us) := match us, h with | [_, _, _, _], _ => rfl
abbrev s_cost_of : Stmt := topS 25
abbrev N_cost_of : List Str := ["costs", "number"]
abbrev ps_cost_of : List Str := ["costs", "number"]
theorem sc_cost_of : FnScope N_cost_of ps_cost_of (defScope s_cost_of) := ⟨rfl, rfl, rfl, by decide +kernel, rfl, by decide +kernel, by decide +kernel⟩
theorem bd_cost_of (kV doc pm : Value) (an : Option Addr) (cdv ct : Value) (us : List Value) (h : us.length = ps_cost_of.length) : bindArgs (PySem.W.fnOf "cost_of" "cost_of" (defArgs s_cost_of) (defBody s_cost_of) (defScope s_cost_of) .none kV doc pm an cdv ct) ⟨us, []⟩ = pure (ps_cost_of.zip us) := match us, h with | [_, _], _ => rfl
abbrev s_places_behind : Stmt := topS 26
abbrev N_places_behind : List Str := ["code", "at", "word", "number", "places"]
abbrev ps_places_behind : List Str := ["code", "at"]
theorem sc_places_behind : FnScope N_places_behind ps_places_behind (defScope s_places_behind) := ⟨rfl, rfl, rfl, by decide +kernel, rfl, by decide +kernel, by decide +kernel⟩
theorem bd_places_behind (kV doc pm : Value) (an : Option Addr) (cdv ct : Value) (us : List Value) (h : us.length = ps_places_behind.length) : bindArgs (PySem.W.fnOf "places_behind" "places_behind" (defArgs s_places_behind) (defBody s_places_behind) (defScope s_places_behind) .none kV doc pm an cdv ct) ⟨us, []⟩ = pure (ps_places_behind.zip us) := match us, h with | [_, _], _ => rfl
abbrev s_is_followed : Stmt := topS 27
abbrev N_is_followed : List Str := ["table", "places", "way", "place", "item"]
abbrev ps_is_followed : List Str := ["table", "places", "way"]
theorem sc_is_followed : FnScope N_is_followed ps_is_followed (defScope s_is_followed) := ⟨rfl, rfl, rfl, by decide +kernel, rfl, by decide +kernel, by decide +kernel⟩
theorem bd_is_followed (kV doc pm : Value) (an : Option Addr) (cdv ct : Value) (us : List Value) (h : us.length = ps_is_followed.length) : bindArgs (PySem.W.fnOf "is_followed" "is_followed" (defArgs s_is_followed) (defBody s_is_followed) (defScope s_is_followed) .none kV doc pm an cdv ct) ⟨us, []⟩ = pure (ps_is_followed.zip us) := match us, h with | [_, _, _], _ => rfl
abbrev s_least_table : Stmt := topS 28
abbrev N_least_table : List Str := ["code", "costs", "function", "most_need", "steps", "table", "at", "way", "place"]
abbrev ps_least_table : List Str := ["code", "costs", "function", "most_need"]
theorem sc_least_table : FnScope N_least_table ps_least_table (defScope s_least_table) := ⟨rfl, rfl, rfl, by decide +kernel, rfl, by decide +kernel, by decide +kernel⟩
theorem bd_least_table (kV doc pm : Value) (an : Option Addr) (cdv ct : Value) (us : List Value) (h : us.length = ps_least_table.length) : bindArgs (PySem.W.fnOf "least_table" "least_table" (defArgs s_least_table) (defBody s_least_table) (defScope s_least_table) .none kV doc pm an cdv ct) ⟨us, []⟩ = pure (ps_least_table.zip us) := match us, h with | [_, _, _, _], _ => rfl
abbrev s_is_within : Stmt := topS 29
abbrev N_is_within : List Str := ["way", "most_need"]
abbrev ps_is_within : List Str := ["way", "most_need"]
theorem sc_is_within : FnScope N_is_within ps_is_within (defScope s_is_within) := ⟨rfl, rfl, rfl, by decide +kernel, rfl, by decide +kernel, by decide +kernel⟩
theorem bd_is_within (kV doc pm : Value) (an : Option Addr) (cdv ct : Value) (us : List Value) (h : us.length = ps_is_within.length) : bindArgs (PySem.W.fnOf "is_within" "is_within" (defArgs s_is_within) (defBody s_is_within) (defScope s_is_within) .none kV doc pm an cdv ct) ⟨us, []⟩ = pure (ps_is_within.zip us) := match us, h with | [_, _], _ => rfl
abbrev s_raised : Stmt := topS 30
abbrev N_raised : List Str := ["item", "way", "least"]
abbrev ps_raised : List Str := ["item", "way"]
theorem sc_raised : FnScope N_raised ps_raised (defScope s_raised) := ⟨rfl, rfl, rfl, by decide +kernel, rfl, by decide +kernel, by decide +kernel⟩
theorem bd_raised (kV doc pm : Value) (an : Option Addr) (cdv ct : Value) (us : List Value) (h : us.length = ps_raised.length) : bindArgs (PySem.W.fnOf "raised" "raised" (defArgs s_raised) (defBody s_raised) (defScope s_raised) .none kV doc pm an cdv ct) ⟨us, []⟩ = pure (ps_raised.zip us) := match us, h with | [_, _], _ => rfl
abbrev s_law_deck : Stmt := topS 32
abbrev N_law_deck : List Str := ["script"]
abbrev ps_law_deck : List Str := ["script"]
theorem sc_law_deck : FnScope N_law_deck ps_law_deck (defScope s_law_deck) := ⟨rfl, rfl, rfl, by decide +kernel, rfl, by decide +kernel, by decide +kernel⟩
theorem bd_law_deck (kV doc pm : Value) (an : Option Addr) (cdv ct : Value) (us : List Value) (h : us.length = ps_law_deck.length) : bindArgs (PySem.W.fnOf "_law_deck" "_law_deck" (defArgs s_law_deck) (defBody s_law_deck) (defScope s_law_deck) .none kV doc pm an cdv ct) ⟨us, []⟩ = pure (ps_law_deck.zip us) := match us, h with | [_], _ => rfl
abbrev s_law_draw : Stmt := topS 33
abbrev N_law_draw : List Str := ["deck", "most", "value", "cell"]
abbrev ps_law_draw : List Str := ["deck", "most"]
theorem sc_law_draw : FnScope N_law_draw ps_law_draw (defScope s_law_draw) := ⟨rfl, rfl, rfl, by decide +kernel, rfl, by decide +kernel, by decide +kernel⟩
theorem bd_law_draw (kV doc pm : Value) (an : Option Addr) (cdv ct : Value) (us : List Value) (h : us.length = ps_law_draw.length) : bindArgs (PySem.W.fnOf "_law_draw" "_law_draw" (defArgs s_law_draw) (defBody s_law_draw) (defScope s_law_draw) .none kV doc pm an cdv ct) ⟨us, []⟩ = pure (ps_law_draw.zip us) := match us, h with | [_, _], _ => rfl
abbrev s_law_same : Stmt := topS 34
abbrev N_law_same : List Str := ["actual", "due", "k"]
abbrev ps_law_same : List Str := ["actual", "due"]
theorem sc_law_same : FnScope N_law_same ps_law_same (defScope s_law_same) := ⟨rfl, rfl, rfl, by decide +kernel, rfl, by decide +kernel, by decide +kernel⟩
theorem bd_law_same (kV doc pm : Value) (an : Option Addr) (cdv ct : Value) (us : List Value) (h : us.length = ps_law_same.length) : bindArgs (PySem.W.fnOf "_law_same" "_law_same" (defArgs s_law_same) (defBody s_law_same) (defScope s_law_same) .none kV doc pm an cdv ct) ⟨us, []⟩ = pure (ps_law_same.zip us) := match us, h with | [_, _], _ => rfl
abbrev s_law_same_list : Stmt := topS 35
abbrev N_law_same_list : List Str := ["actual", "due", "k"]
abbrev ps_law_same_list : List Str := ["actual", "due"]
theorem sc_law_same_list : FnScope N_law_same_list ps_law_same_list (defScope s_law_same_list) := ⟨rfl, rfl, rfl, by decide +kernel, rfl, by decide +kernel, by decide +kernel⟩
theorem bd_law_same_list (kV doc pm : Value) (an : Option Addr) (cdv ct : Value) (us : List Value) (h : us.length = ps_law_same_list.length) : bindArgs (PySem.W.fnOf "_law_same_list" "_law_same_list" (defArgs s_law_same_list) (defBody s_law_same_list) (defScope s_law_same_list) .none kV doc pm an cdv ct) ⟨us, []⟩ = pure (ps_law_same_list.zip us) := match us, h with | [_, _], _ => rfl
abbrev s_law_words : Stmt := topS 36
abbrev N_law_words : List Str := ["rows"]
abbrev ps_law_words : List Str := []
theorem sc_law_words : FnScope N_law_words ps_law_words (defScope s_law_words) := ⟨rfl, rfl, rfl, by decide +kernel, rfl, by decide +kernel, by decide +kernel⟩
theorem bd_law_words (kV doc pm : Value) (an : Option Addr) (cdv ct : Value) (us : List Value) (h : us.length = ps_law_words.length) : bindArgs (PySem.W.fnOf "_law_words" "_law_words" (defArgs s_law_words) (defBody s_law_words) (defScope s_law_words) .none kV doc pm an cdv ct) ⟨us, []⟩ = pure (ps_law_words.zip us) := match us, h with | [], _ => rfl
abbrev s_law_effect : Stmt := topS 37
abbrev N_law_effect : List Str := ["word", "rows", "counts", "k"]
abbrev ps_law_effect : List Str := ["word"]
theorem sc_law_effect : FnScope N_law_effect ps_law_effect (defScope s_law_effect) := ⟨rfl, rfl, rfl, by decide +kernel, rfl, by decide +kernel, by decide +kernel⟩
theorem bd_law_effect (kV doc pm : Value) (an : Option Addr) (cdv ct : Value) (us : List Value) (h : us.length = ps_law_effect.length) : bindArgs (PySem.W.fnOf "_law_effect" "_law_effect" (defArgs s_law_effect) (defBody s_law_effect) (defScope s_law_effect) .none kV doc pm an cdv ct) ⟨us, []⟩ = pure (ps_law_effect.zip us) := match us, h with | [_], _ => rfl
abbrev s_law_instruction : Stmt := topS 38
abbrev N_law_instruction : List Str := ["deck", "height", "functions", "left", "rows", "kind", "word", "number"]
abbrev ps_law_instruction : List Str := ["deck", "height", "functions", "left"]
theorem sc_law_instruction : FnScope N_law_instruction ps_law_instruction (defScope s_law_instruction) := ⟨rfl, rfl, rfl, by decide +kernel, rfl, by decide +kernel, by decide +kernel⟩
theorem bd_law_instruction (kV doc pm : Value) (an : Option Addr) (cdv ct : Value) (us : List Value) (h : us.length = ps_law_instruction.length) : bindArgs (PySem.W.fnOf "_law_instruction" "_law_instruction" (defArgs s_law_instruction) (defBody s_law_instruction) (defScope s_law_instruction) .none kV doc pm an cdv ct) ⟨us, []⟩ = pure (ps_law_instruction.zip us) := match us, h with | [_, _, _, _], _ => rfl
abbrev s_law_code : Stmt := topS 39
abbrev N_law_code : List Str := ["deck", "most", "functions", "code", "height", "count", "k", "row", "part"]
abbrev ps_law_code : List Str := ["deck", "most", "functions"]
theorem sc_law_code : FnScope N_law_code ps_law_code (defScope s_law_code) := ⟨rfl, rfl, rfl, by decide +kernel, rfl, by decide +kernel, by decide +kernel⟩
theorem bd_law_code (kV doc pm : Value) (an : Option Addr) (cdv ct : Value) (us : List Value) (h : us.length = ps_law_code.length) : bindArgs (PySem.W.fnOf "_law_code" "_law_code" (defArgs s_law_code) (defBody s_law_code) (defScope s_law_code) .none kV doc pm an cdv ct) ⟨us, []⟩ = pure (ps_law_code.zip us) := match us, h with | [_, _, _], _ => rfl
abbrev s_law_program : Stmt := topS 40
abbrev N_law_program : List Str := ["deck", "functions", "k", "main"]
abbrev ps_law_program : List Str := ["deck"]
theorem sc_law_program : FnScope N_law_program ps_law_program (defScope s_law_program) := ⟨rfl, rfl, rfl, by decide +kernel, rfl, by decide +kernel, by decide +kernel⟩
theorem bd_law_program (kV doc pm : Value) (an : Option Addr) (cdv ct : Value) (us : List Value) (h : us.length = ps_law_program.length) : bindArgs (PySem.W.fnOf "_law_program" "_law_program" (defArgs s_law_program) (defBody s_law_program) (defScope s_law_program) .none kV doc pm an cdv ct) ⟨us, []⟩ = pure (ps_law_program.zip us) := match us, h with | [_], _ => rfl
abbrev s_law_handed : Stmt := topS 41
abbrev N_law_handed : List Str := ["program", "code"]
abbrev ps_law_handed : List Str := ["program"]
theorem sc_law_handed : FnScope N_law_handed ps_law_handed (defScope s_law_handed) := ⟨rfl, rfl, rfl, by decide +kernel, rfl, by decide +kernel, by decide +kernel⟩
theorem bd_law_handed (kV doc pm : Value) (an : Option Addr) (cdv ct : Value) (us : List Value) (h : us.length = ps_law_handed.length) : bindArgs (PySem.W.fnOf "_law_handed" "_law_handed" (defArgs s_law_handed) (defBody s_law_handed) (defScope s_law_handed) .none kV doc pm an cdv ct) ⟨us, []⟩ = pure (ps_law_handed.zip us) := match us, h with | [_], _ => rfl
abbrev s_law_next : Stmt := topS 42
abbrev N_law_next : List Str := ["code", "place", "row"]
abbrev ps_law_next : List Str := ["code", "place"]
theorem sc_law_next : FnScope N_law_next ps_law_next (defScope s_law_next) := ⟨rfl, rfl, rfl, by decide +kernel, rfl, by decide +kernel, by decide +kernel⟩
theorem bd_law_next (kV doc pm : Value) (an : Option Addr) (cdv ct : Value) (us : List Value) (h : us.length = ps_law_next.length) : bindArgs (PySem.W.fnOf "_law_next" "_law_next" (defArgs s_law_next) (defBody s_law_next) (defScope s_law_next) .none kV doc pm an cdv ct) ⟨us, []⟩ = pure (ps_law_next.zip us) := match us, h with | [_, _], _ => rfl
abbrev s_law_cost_at : Stmt := topS 43
abbrev N_law_cost_at : List Str := ["code", "costs", "place", "row", "part", "inner"]
abbrev ps_law_cost_at : List Str := ["code", "costs", "place"]
theorem sc_law_cost_at : FnScope N_law_cost_at ps_law_cost_at (defScope s_law_cost_at) := ⟨rfl, rfl, rfl, by decide +kernel, rfl, by decide +kernel, by decide +kernel⟩
theorem bd_law_cost_at (kV doc pm : Value) (an : Option Addr) (cdv ct : Value) (us : List Value) (h : us.length = ps_law_cost_at.length) : bindArgs (PySem.W.fnOf "_law_cost_at" "_law_cost_at" (defArgs s_law_cost_at) (defBody s_law_cost_at) (defScope s_law_cost_at) .none kV doc pm an cdv ct) ⟨us, []⟩ = pure (ps_law_cost_at.zip us) := match us, h with | [_, _, _], _ => rfl
abbrev s_law_judged : Stmt := topS 44
abbrev N_law_judged : List Str := ["code", "costs", "table", "need", "peak", "place", "part", "following", "item", "cost"]
abbrev ps_law_judged : List Str := ["code", "costs", "table"]
theorem sc_law_judged : FnScope N_law_judged ps_law_judged (defScope s_law_judged) := ⟨rfl, rfl, rfl, by decide +kernel, rfl, by decide +kernel, by decide +kernel⟩
theorem bd_law_judged (kV doc pm : Value) (an : Option Addr) (cdv ct : Value) (us : List Value) (h : us.length = ps_law_judged.length) : bindArgs (PySem.W.fnOf "_law_judged" "_law_judged" (defArgs s_law_judged) (defBody s_law_judged) (defScope s_law_judged) .none kV doc pm an cdv ct) ⟨us, []⟩ = pure (ps_law_judged.zip us) := match us, h with | [_, _, _], _ => rfl
abbrev s_law_made_table : Stmt := topS 45
abbrev N_law_made_table : List Str := ["code", "costs", "most", "table", "place", "height", "part", "following", "old", "steps", "k"]
abbrev ps_law_made_table : List Str := ["code", "costs", "most"]
theorem sc_law_made_table : FnScope N_law_made_table ps_law_made_table (defScope s_law_made_table) := ⟨rfl, rfl, rfl, by decide +kernel, rfl, by decide +kernel, by decide +kernel⟩
theorem bd_law_made_table (kV doc pm : Value) (an : Option Addr) (cdv ct : Value) (us : List Value) (h : us.length = ps_law_made_table.length) : bindArgs (PySem.W.fnOf "_law_made_table" "_law_made_table" (defArgs s_law_made_table) (defBody s_law_made_table) (defScope s_law_made_table) .none kV doc pm an cdv ct) ⟨us, []⟩ = pure (ps_law_made_table.zip us) := match us, h with | [_, _, _], _ => rfl
abbrev s_law_made_tables : Stmt := topS 46
abbrev N_law_made_tables : List Str := ["program", "costs", "tables", "k", "table"]
abbrev ps_law_made_tables : List Str := ["program"]
theorem sc_law_made_tables : FnScope N_law_made_tables ps_law_made_tables (defScope s_law_made_tables) := ⟨rfl, rfl, rfl, by decide +kernel, rfl, by decide +kernel, by decide +kernel⟩
theorem bd_law_made_tables (kV doc pm : Value) (an : Option Addr) (cdv ct : Value) (us : List Value) (h : us.length = ps_law_made_tables.length) : bindArgs (PySem.W.fnOf "_law_made_tables" "_law_made_tables" (defArgs s_law_made_tables) (defBody s_law_made_tables) (defScope s_law_made_tables) .none kV doc pm an cdv ct) ⟨us, []⟩ = pure (ps_law_made_tables.zip us) := match us, h with | [_], _ => rfl
abbrev s_law_tame : Stmt := topS 47
abbrev N_law_tame : List Str := ["deck", "most", "functions", "level", "code", "height", "k", "row", "part", "inner"]
abbrev ps_law_tame : List Str := ["deck", "most", "functions", "level"]
theorem sc_law_tame : FnScope N_law_tame ps_law_tame (defScope s_law_tame) := ⟨rfl, rfl, rfl, by decide +kernel, rfl, by decide +kernel, by decide +kernel⟩
theorem bd_law_tame (kV doc pm : Value) (an : Option Addr) (cdv ct : Value) (us : List Value) (h : us.length = ps_law_tame.length) : bindArgs (PySem.W.fnOf "_law_tame" "_law_tame" (defArgs s_law_tame) (defBody s_law_tame) (defScope s_law_tame) .none kV doc pm an cdv ct) ⟨us, []⟩ = pure (ps_law_tame.zip us) := match us, h with | [_, _, _, _], _ => rfl
abbrev s_law_tame_program : Stmt := topS 48
abbrev N_law_tame_program : List Str := ["deck", "functions", "k", "main"]
abbrev ps_law_tame_program : List Str := ["deck"]
theorem sc_law_tame_program : FnScope N_law_tame_program ps_law_tame_program (defScope s_law_tame_program) := ⟨rfl, rfl, rfl, by decide +kernel, rfl, by decide +kernel, by decide +kernel⟩
theorem bd_law_tame_program (kV doc pm : Value) (an : Option Addr) (cdv ct : Value) (us : List Value) (h : us.length = ps_law_tame_program.length) : bindArgs (PySem.W.fnOf "_law_tame_program" "_law_tame_program" (defArgs s_law_tame_program) (defBody s_law_tame_program) (defScope s_law_tame_program) .none kV doc pm an cdv ct) ⟨us, []⟩ = pure (ps_law_tame_program.zip us) := match us, h with | [_], _ => rfl
abbrev s_law_bent_table : Stmt := topS 49
abbrev N_law_bent_table : List Str := ["deck", "table", "at", "kind", "item", "more", "found", "row"]
abbrev ps_law_bent_table : List Str := ["deck", "table"]
theorem sc_law_bent_table : FnScope N_law_bent_table ps_law_bent_table (defScope s_law_bent_table) := ⟨rfl, rfl, rfl, by decide +kernel, rfl, by decide +kernel, by decide +kernel⟩
theorem bd_law_bent_table (kV doc pm : Value) (an : Option Addr) (cdv ct : Value) (us : List Value) (h : us.length = ps_law_bent_table.length) : bindArgs (PySem.W.fnOf "_law_bent_table" "_law_bent_table" (defArgs s_law_bent_table) (defBody s_law_bent_table) (defScope s_law_bent_table) .none kV doc pm an cdv ct) ⟨us, []⟩ = pure (ps_law_bent_table.zip us) := match us, h with | [_, _], _ => rfl
abbrev s_law_told : Stmt := topS 50
abbrev N_law_told : List Str := ["program", "e"]
abbrev ps_law_told : List Str := ["program"]
theorem sc_law_told : FnScope N_law_told ps_law_told (defScope s_law_told) := ⟨rfl, rfl, rfl, by decide +kernel, rfl, by decide +kernel, by decide +kernel⟩
theorem bd_law_told (kV doc pm : Value) (an : Option Addr) (cdv ct : Value) (us : List Value) (h : us.length = ps_law_told.length) : bindArgs (PySem.W.fnOf "_law_told" "_law_told" (defArgs s_law_told) (defBody s_law_told) (defScope s_law_told) .none kV doc pm an cdv ct) ⟨us, []⟩ = pure (ps_law_told.zip us) := match us, h with | [_], _ => rfl
abbrev s_law_no_less : Stmt := topS 51
abbrev N_law_no_less : List Str := ["least", "tables", "k", "place", "item"]
abbrev ps_law_no_less : List Str := ["least", "tables"]
theorem sc_law_no_less : FnScope N_law_no_less ps_law_no_less (defScope s_law_no_less) := ⟨rfl, rfl, rfl, by decide +kernel, rfl, by decide +kernel, by decide +kernel⟩
theorem bd_law_no_less (kV doc pm : Value) (an : Option Addr) (cdv ct : Value) (us : List Value) (h : us.length = ps_law_no_less.length) : bindArgs (PySem.W.fnOf "_law_no_less" "_law_no_less" (defArgs s_law_no_less) (defBody s_law_no_less) (defScope s_law_no_less) .none kV doc pm an cdv ct) ⟨us, []⟩ = pure (ps_law_no_less.zip us) := match us, h with | [_, _], _ => rfl
abbrev s_law : Stmt := topS 52
abbrev N_law : List Str := ["script", "deck", "program", "due", "told", "tables", "turn", "at", "code", "k"]
abbrev ps_law : List Str := ["script"]
theorem sc_law : FnScope N_law ps_law (defScope s_law) := ⟨rfl, rfl, rfl, by decide +kernel, rfl, by decide +kernel, by decide +kernel⟩
theorem bd_law (kV doc pm : Value) (an : Option Addr) (cdv ct : Value) (us : List Value) (h : us.length = ps_law.length) : bindArgs (PySem.W.fnOf "law" "law" (defArgs s_law) (defBody s_law) (defScope s_law) .none kV doc pm an cdv ct) ⟨us, []⟩ = pure (ps_law.zip us) := match us, h with | [_], _ => rfl
abbrev s_NoTable : Stmt := inClass (topS 2) 0
abbrev ps_NoTable : List Str := ["self", "function", "place"]
theorem sc_NoTable : FnScope ["self", "function", "place"] ps_NoTable (defScope s_NoTable) := ⟨rfl, rfl, rfl, by decide +kernel, rfl, by decide +kernel, by decide +kernel⟩
abbrev kw_Program (e_functions e_presets : Addr) : List (Str × V) := [("functions", .ref e_functions), ("presets", .ref e_presets), ("size", .int 0)]
abbrev fl_Program : List Str := ["main", "functions", "presets", "size"]
structure Txt (K : PySem.W.Frag) (mg : Str → Option Value) : Prop where
  z_all : mg "all" = none
  z_bool : mg "bool" = none
  z_enumerate : mg "enumerate" = none
  z_int : mg "int" = none
  z_isinstance : mg "isinstance" = none
  z_len : mg "len" = none
  z_list : mg "list" = none
  z_max : mg "max" = none
  z_min : mg "min" = none
  z_range : mg "range" = none
  z_str : mg "str" = none
  z_tuple : mg "tuple" = none
  z_zip : mg "zip" = none
  g_LEAST_NUMBER : ∃ u, mg "LEAST_NUMBER" = some u ∧ RelV (.int (-2147483648)) u
  g_MAIN : ∃ u, mg "MAIN" = some u ∧ RelV (.int (-1)) u
  g_MANY_NUMBERS : ∃ u, mg "MANY_NUMBERS" = some u ∧ RelV (.int (4294967296)) u
  g_MOST_CALLS : ∃ u, mg "MOST_CALLS" = some u ∧ RelV (.int (20)) u
  g_MOST_ROUNDS : ∃ u, mg "MOST_ROUNDS" = some u ∧ RelV (.int (16)) u
  g_MOST_STEPS : ∃ u, mg "MOST_STEPS" = some u ∧ RelV (.int (4096)) u
  g_MOST_VALUES : ∃ u, mg "MOST_VALUES" = some u ∧ RelV (.int (32)) u
  d_tuples_of : DefIn K mg "tuples_of" s_tuples_of
  d_kept : DefIn K mg "kept" s_kept
  d_kept_code : DefIn K mg "kept_code" s_kept_code
  d_judge_table : DefIn K mg "judge_table" s_judge_table
  d_judge_tables : DefIn K mg "judge_tables" s_judge_tables
  d_make_tables : DefIn K mg "make_tables" s_make_tables
  d_begins_and_ends : DefIn K mg "begins_and_ends" s_begins_and_ends
  d_way_on : DefIn K mg "way_on" s_way_on
  d_cost_of : DefIn K mg "cost_of" s_cost_of
  d_places_behind : DefIn K mg "places_behind" s_places_behind
  d_is_followed : DefIn K mg "is_followed" s_is_followed
  d_least_table : DefIn K mg "least_table" s_least_table
  d_is_within : DefIn K mg "is_within" s_is_within
  d_raised : DefIn K mg "raised" s_raised
  d_law_deck : DefIn K mg "_law_deck" s_law_deck
  d_law_draw : DefIn K mg "_law_draw" s_law_draw
  d_law_same : DefIn K mg "_law_same" s_law_same
  d_law_same_list : DefIn K mg "_law_same_list" s_law_same_list
  d_law_words : DefIn K mg "_law_words" s_law_words
  d_law_effect : DefIn K mg "_law_effect" s_law_effect
  d_law_instruction : DefIn K mg "_law_instruction" s_law_instruction
  d_law_code : DefIn K mg "_law_code" s_law_code
  d_law_program : DefIn K mg "_law_program" s_law_program
  d_law_handed : DefIn K mg "_law_handed" s_law_handed
  d_law_next : DefIn K mg "_law_next" s_law_next
  d_law_cost_at : DefIn K mg "_law_cost_at" s_law_cost_at
  d_law_judged : DefIn K mg "_law_judged" s_law_judged
  d_law_made_table : DefIn K mg "_law_made_table" s_law_made_table
  d_law_made_tables : DefIn K mg "_law_made_tables" s_law_made_tables
  d_law_tame : DefIn K mg "_law_tame" s_law_tame
  d_law_tame_program : DefIn K mg "_law_tame_program" s_law_tame_program
  d_law_bent_table : DefIn K mg "_law_bent_table" s_law_bent_table
  d_law_told : DefIn K mg "_law_told" s_law_told
  d_law_no_less : DefIn K mg "_law_no_less" s_law_no_less
  d_law : DefIn K mg "law" s_law
  x_FleuronError : mg "FleuronError" = some (.ref (adr mg "FleuronError"))
  b_FleuronError : BaseC K (adr mg "FleuronError")
  mk_NoTable : Cls2 K mg "NoTable" "NoTable.__init__" s_NoTable "function" "place"
  ms_NoTable : PySem.W.exmOne K (.ref (adr mg "NoTable")) (.ref (adr mg "NoTable")) = some true
  gt_CALLS : mg "CALLS" = some (.ref (adr mg "CALLS"))
  gs_CALLS : ∀ H : Hp, SqT K H (adr mg "CALLS") [.str "call", .str "repeat"]
  gt_JUMPS : mg "JUMPS" = some (.ref (adr mg "JUMPS"))
  gs_JUMPS : ∀ H : Hp, SqT K H (adr mg "JUMPS") [.str "jump", .str "jumpzero"]
  c_Program : ∃ e_functions e_presets : Addr, EmT K e_functions ∧ EmT K e_presets ∧ ClsI K mg "Program" "Program.__init__" s_Program fl_Program (kw_Program e_functions e_presets)

section
variable {P : Program} {w : World} {K : PySem.W.Frag} {mg : Str → Option Value} {base : Heap}
theorem ok_law_deck (T : Txt K mg) : Has P w K mg base 1 "_law_deck" ps_law_deck (spDk K) := by
  refine has_of T.d_law_deck sc_law_deck bd_law_deck (fun vs H Q E h => ?_) (fun f cdv A outer s H vs Q E hr h => ?_)
  · obtain ⟨a, ns, rfl, _⟩ := h
    rfl
  · obtain ⟨a, ns, rfl, hS, q⟩ := h
    refine ⟨_, (pss_one (ps_ret (pe_lst (pa_cons (pe_callTy (clList (K := K) rfl) (by rfl) T.z_list (by decide +kernel) (pa_cons (pv 0) pa_nil)) (pa_cons pe_int (pa_cons pe_int (pa_cons pe_int pa_nil))))))), ?_⟩
    walk_at "fl.go"
    rename_i l hl d hd
    have hd' : H d = none := Same.free (Fl.Same.new hl) hd
    have hne : l ≠ d := fun e => by
      rw [← e, upd_same] at hd
      cases hd
    exact q d l _ ((Fl.Same.new hl).trans (Fl.Same.new hd)) ⟨hne, raw_new hd upd_same, 0, 0, 7, upd_same, Int.le_refl 0⟩
theorem ok_law_draw (T : Txt K mg) : Has P w K mg base 1 "_law_draw" ps_law_draw spDr := by
  refine has_of T.d_law_draw sc_law_draw bd_law_draw (fun vs H Q E h => ?_) (fun f cdv A outer s H vs Q E hr h => ?_)
  · obtain ⟨d, s, ns, m, rfl, _⟩ := h
    rfl
  · obtain ⟨d, sa, ns, m, rfl, ⟨hne, hs, pos, rest, seed, hd, hpos⟩, hm, hm2, q⟩ := h
    refine ⟨_, (pss_cons (ps_if (pt_cmpR op_ge (pe_ix (ixL (K := K) rfl) (pv 0) pe_int (fun _ _ => rfl)) (pv 1) (nomark _))
        (pss_cons (ps_set (i := 2) sc_law_draw.nd rfl (.inl rfl) (pe_op op_mod (pe_callTy call_int' (by rfl) T.z_int (by decide +kernel) (pa_cons (pe_ix (ixL (K := K) rfl) (pv 0) pe_int (fun _ _ => rfl)) pa_nil)) (pv 1)))
      (pss_cons (ps_asg (pe_op op_fdivW (pe_ix (ixL (K := K) rfl) (pv 0) pe_int (fun _ _ => rfl)) (pv 1)) (pg_sub (pv 0) pe_int set_list))
      (pss_one (ps_ret (pv 2)))))
        pss_nil)
      (pss_cons (ps_set (i := 3) sc_law_draw.nd rfl (.inl rfl) pe_int)
      (pss_cons (ps_if (pt_cmpR op_lt (pe_ix (ixL (K := K) rfl) (pv 0) pe_int (fun _ _ => rfl)) (pe_callB (clLen (K := K) rfl) (by rfl) T.z_len (by decide +kernel) (pa_cons (pe_ix (ixL (K := K) rfl) (pv 0) pe_int (fun _ _ => rfl)) pa_nil)) (nomark _))
        (pss_one (ps_set (i := 3) sc_law_draw.nd rfl (.inl rfl) (pe_ix (ixL (K := K) rfl) (pe_ix (ixL (K := K) rfl) (pv 0) pe_int (fun _ _ => rfl)) (pe_ix (ixL (K := K) rfl) (pv 0) pe_int (fun _ _ => rfl)) (fun _ _ => rfl))))
        pss_nil)
      (pss_cons (ps_asg (pe_op op_add (pe_ix (ixL (K := K) rfl) (pv 0) pe_int (fun _ _ => rfl)) pe_int) (pg_sub (pv 0) pe_int set_list))
      (pss_cons (ps_asg pe_int (pg_sub (pv 0) pe_int set_list))
      (pss_cons (ps_if (pt_cmpR op_ge (pv 3) (pe_powc (r := 1000000000000000000) (by decide) (by decide +kernel)) (nomark _))
        (pss_cons (ps_asg (pe_op op_fdivW (pv 3) (pv 1)) (pg_sub (pv 0) pe_int set_list))
      (pss_one (ps_ret (pe_op op_mod (pe_callTy call_int' (by rfl) T.z_int (by decide +kernel) (pa_cons (pv 3) pa_nil)) (pv 1)))))
        pss_nil)
      (pss_cons (ps_asg (pe_op op_mod (pe_callTy call_int' (by rfl) T.z_int (by decide +kernel) (pa_cons (pe_op op_add (pe_op op_add (pe_op op_mul (pe_ix (ixL (K := K) rfl) (pv 0) pe_int (fun _ _ => rfl)) pe_int) (pe_op op_mul (pv 3) pe_int)) (pe_op op_mul (pe_ix (ixL (K := K) rfl) (pv 0) pe_int (fun _ _ => rfl)) pe_int)) pa_nil)) pe_int) (pg_sub (pv 0) pe_int set_list))
      (pss_cons (ps_asg (pe_op op_mod (pe_callTy call_int' (by rfl) T.z_int (by decide +kernel) (pa_cons (pe_op op_add (pe_op op_mul (pe_ix (ixL (K := K) rfl) (pv 0) pe_int (fun _ _ => rfl)) pe_int) pe_int) pa_nil)) pe_int) (pg_sub (pv 0) pe_int set_list))
      (pss_one (ps_ret (pe_op op_mod (pe_callTy call_int' (by rfl) T.z_int (by decide +kernel) (pa_cons (pe_op op_fdivW (pe_ix (ixL (K := K) rfl) (pv 0) pe_int (fun _ _ => rfl)) pe_int) pa_nil)) (pv 1)))))))))))), ?_⟩
    have hlen : (ns.map V.int).length = ns.length := List.length_map _
    have fin : ∀ (x p r z : Int) (H' : Hp), H' d = some (.lst [.ref sa, .int p, .int r, .int z]) → 0 ≤ p → On d H H' → Q (.int (x % m)) H' := fun x p r z H' e hp ho =>
      q _ _ (Int.emod_nonneg _ (by omega)) (Int.emod_lt_of_pos _ hm) ⟨hne, raw_on ho hne hs, p, r, z, e, hp⟩ ho
    rcases (by omega : pos < ns.length ∨ ¬ pos < ns.length) with hp | hp
    · obtain ⟨n, hn⟩ := at_int hpos hp
      walk_at "fl.wr"
      all_goals first
        | (exfalso; omega)
        | exact fin _ _ _ _ _ upd_same (by omega) (by intro b hb; simp only [upd_ne hb])
    · walk_at "fl.wr"
      all_goals first
        | (exfalso; omega)
        | exact fin _ _ _ _ _ upd_same (by omega) (by intro b hb; simp only [upd_ne hb])
theorem ok_law_same (T : Txt K mg) : Has P w K mg base 1 "_law_same" ps_law_same spSm1 := by
  refine has_of T.d_law_same sc_law_same bd_law_same (fun vs H Q E h => ?_) (fun f cdv A outer s H vs Q E hr h => ?_)
  · obtain ⟨S, S', d, x, y, rfl, _⟩ := h
    rfl
  · obtain ⟨S, S', d, x, y, rfl, hf, hx, hy, q⟩ := h
    refine ⟨_, (pss_cons (ps_if (pt_val (pe_callB (clIsi (K := K) rfl) (by rfl) T.z_isinstance (by decide +kernel) (pa_cons (pv 1) (pa_cons (pe_bltn (v := .ty "tuple") (by rfl) T.z_tuple (by decide +kernel) rfl) pa_nil))))
        pss_never
        pss_nil)
      (pss_cons (ps_if (PW.pt (pw_or (pt_val (pe_callB (clIsi (K := K) rfl) (by rfl) T.z_isinstance (by decide +kernel) (pa_cons (pv 1) (pa_cons (pe_bltn (v := .ty "bool") (by rfl) T.z_bool (by decide +kernel) rfl) pa_nil)))) (pw_or1 (pt_val (pe_callB (clIsi (K := K) rfl) (by rfl) T.z_isinstance (by decide +kernel) (pa_cons (pv 0) (pa_cons (pe_bltn (v := .ty "bool") (by rfl) T.z_bool (by decide +kernel) rfl) pa_nil)))))))
        (pss_one (ps_ret (pe_and (pe_callB (clIsi (K := K) rfl) (by rfl) T.z_isinstance (by decide +kernel) (pa_cons (pv 1) (pa_cons (pe_bltn (v := .ty "bool") (by rfl) T.z_bool (by decide +kernel) rfl) pa_nil))) (pe_and (pe_callB (clIsi (K := K) rfl) (by rfl) T.z_isinstance (by decide +kernel) (pa_cons (pv 0) (pa_cons (pe_bltn (v := .ty "bool") (by rfl) T.z_bool (by decide +kernel) rfl) pa_nil))) (pe_one (pe_cmpR op_eq (pv 1) (pv 0) (nomark _)))))))
        pss_nil)
      (pss_cons (ps_if (pt_val (pe_callB (clIsi (K := K) rfl) (by rfl) T.z_isinstance (by decide +kernel) (pa_cons (pv 1) (pa_cons (pe_bltn (v := .ty "int") (by rfl) T.z_int (by decide +kernel) rfl) pa_nil))))
        (pss_one (ps_ret (pe_and (pe_callB (clIsi (K := K) rfl) (by rfl) T.z_isinstance (by decide +kernel) (pa_cons (pv 0) (pa_cons (pe_bltn (v := .ty "int") (by rfl) T.z_int (by decide +kernel) rfl) pa_nil))) (pe_one (pe_cmpR op_eq (pv 0) (pv 1) (nomark _))))))
        pss_nil)
      (pss_cons (ps_if (pt_val (pe_callB (clIsi (K := K) rfl) (by rfl) T.z_isinstance (by decide +kernel) (pa_cons (pv 1) (pa_cons (pe_bltn (v := .ty "str") (by rfl) T.z_str (by decide +kernel) rfl) pa_nil))))
        (pss_one (ps_ret (pe_and (pe_callB (clIsi (K := K) rfl) (by rfl) T.z_isinstance (by decide +kernel) (pa_cons (pv 0) (pa_cons (pe_bltn (v := .ty "str") (by rfl) T.z_str (by decide +kernel) rfl) pa_nil))) (pe_one (pe_cmpR op_eq (pv 0) (pv 1) (nomark _))))))
        pss_nil)
      (pss_one (ps_ret (pe_and (pe_cmpR op_isN (pv 1) pe_non (nomark _)) (pe_one (pe_cmpR op_isN (pv 0) pe_non (nomark _)))))))))), ?_⟩
    cases d with
    | int i =>
      cases hx.intE
      cases hy.intE
      walk_at "fl.wr"
      rw [decide_eq_true rfl]
      exact q
    | bool b =>
      cases hx.blE
      cases hy.blE
      walk_at "fl.wr"
      rw [decide_eq_true rfl]
      exact q
    | none =>
      cases hx.nonE
      cases hy.nonE
      walk_at "fl.w"
      refine g_ite (fun _ => ?_) (fun h => absurd rfl h)
      walk_at "fl.w"
      rw [decide_eq_true rfl]
      exact q
    | str _ => cases hf
    | list _ => cases hf
    | tuple _ => cases hf
    | dict _ => cases hf
end
local macro_rules | `(tactic| walk_at "fl.t") => `(tactic| (with_reducible refine g_asg2 ?_))
local macro_rules | `(tactic| walk_at "fl.t") => `(tactic| ((with_reducible apply g_allL); (focus walk_at "fl.lk")))
local macro_rules | `(tactic| walk_at "fl.t") => `(tactic| ((with_reducible apply g_enE); (focus walk_at "fl.lk")))
local macro_rules | `(tactic| walk_at "fl.t") => `(tactic| (with_reducible refine g_enum ?_))
local macro_rules | `(tactic| walk_at "fl.t") => `(tactic| (with_reducible refine g_truN ?_))
local macro_rules | `(tactic| walk_at "fl.t") => `(tactic| (with_reducible refine g_orT ?_))
local macro_rules | `(tactic| walk_at "fl.t") => `(tactic| (with_reducible refine g_chain ?_))
local macro_rules | `(tactic| walk_at "fl.t") => `(tactic| ((with_reducible apply g_sfE); (focus first | exact InitAt.hx (by assumption) | walk_at "fl.raw"); (focus assumption); (focus ((apply na_of); (focus assumption); rfl)); (focus (simp only [List.length_append, List.length_cons, List.length_nil]; omega))))
local macro_rules | `(tactic| walk_at "fl.t") => `(tactic| ((with_reducible apply g_fldE); (focus walk_at "fl.raw"); (focus assumption); (focus ((apply na_of); (focus assumption); rfl)); (focus rfl)))
local macro_rules | `(tactic| walk_at "fl.t") => `(tactic| (with_reducible refine g_make ?_))
local macro_rules | `(tactic| walk_at "fl.t") => `(tactic| (with_reducible refine g_sf ?_))
local macro_rules | `(tactic| walk_at "fl.t") => `(tactic| (with_reducible refine g_fld ?_))
local macro_rules | `(tactic| walk_at "fl.w") => `(tactic| repeat walk_at "fl.t")
section
end

section
variable {P : Program} {w : World} {K : PySem.W.Frag} {mg : Str → Option Value} {base : Heap}
theorem g_chainW {σ : L2.St} {H : Hp} {Q : VK} {r r' : R2} {ta tb tc : TE} (h : ta σ H fun x H1 => tb σ H1 fun y H2 => r x y H2 fun z H3 => ∃ k, z = .bl k ∧ (if k = true then tc σ H3 fun w' H4 => r' y w' H4 Q else Q (.bl false) H3)) : tChain r r' ta tb tc σ H Q := h
theorem g_kin {d : Addr} {H : Hp} {Q : VK} {K : PySem.W.Frag} {z : Str} {r : Option Value} (h : PySem.W.nsIn K d z = some r) (q : Q (.bl r.isSome) H) : (fun x y H Q => ∃ (z : Str) (r : Option Value), x = .str z ∧ y = .ref d ∧ PySem.W.nsIn K d z = some r ∧ Q (.bl r.isSome) H : R2) (.str z) (.ref d) H Q := ⟨z, r, rfl, rfl, h, q⟩
theorem g_knin {d : Addr} {H : Hp} {Q : VK} {K : PySem.W.Frag} {z : Str} {r : Option Value} (h : PySem.W.nsIn K d z = some r) (q : Q (.bl (!r.isSome)) H) : (fun x y H Q => ∃ (z : Str) (r : Option Value), x = .str z ∧ y = .ref d ∧ PySem.W.nsIn K d z = some r ∧ Q (.bl (!r.isSome)) H : R2) (.str z) (.ref d) H Q := ⟨z, r, rfl, rfl, h, q⟩
theorem g_inT {K : PySem.W.Frag} {x : V} {p : Addr} {xs : List V} {H : Hp} {Q : VK} (h : SqT K H p xs) (f1 : flatV x = true) (f2 : xs.all flatV = true) (q : Q (.bl (inV x xs)) H) : rIn K false x (.ref p) H Q := ⟨p, xs, rfl, .inr h, f1, f2, q⟩
theorem g_inL {K : PySem.W.Frag} {x : V} {p : Addr} {xs : List V} {H : Hp} {Q : VK} (h : SqL K H p xs) (f1 : flatV x = true) (f2 : xs.all flatV = true) (q : Q (.bl (inV x xs)) H) : rIn K false x (.ref p) H Q := ⟨p, xs, rfl, .inl h, f1, f2, q⟩
theorem strs_flat : ∀ ws : List Str, (ws.map V.str).all flatV = true
  | [] => rfl
  | _ :: ws => by
    show (true && (ws.map V.str).all flatV) = true
    rw [strs_flat ws]
    rfl
theorem strs_in (x : Str) : ∀ ws : List Str, inV (.str x) (ws.map V.str) = decide (x ∈ ws)
  | [] => rfl
  | y :: ws => by
    have := strs_in x ws
    simp only [inV, List.map_cons, List.any_cons] at this ⊢
    rw [this]
    by_cases e : x = y
    · subst e; simp [eqV]
    · have : eqV (.str y) (.str x) = false := by simp [eqV]; exact fun h => e h.symm
      simp [this, e]
theorem g_kd {K : PySem.W.Frag} {w : World} {p : Addr} {z : Str} {v : V} {H : Hp} {Q : VK} (h : KDct K w p z v) (q : Q v H) : rIxD K w (.ref p) (.str z) H Q := ⟨p, z, v, rfl, rfl, h, q⟩
local macro_rules | `(tactic| walk_at "fl.t") => `(tactic| (with_reducible refine g_dgKT ?_))
local macro_rules | `(tactic| walk_at "fl.t") => `(tactic| (with_reducible refine g_eqS ?_))
local macro_rules | `(tactic| walk_at "fl.t") => `(tactic| (with_reducible refine g_chainW ?_))
local macro_rules | `(tactic| walk_at "fl.w") => `(tactic| repeat walk_at "fl.t")
theorem Fr.updT {S : List Addr} {p : Addr} {H H2 : Hp} {o : HO} (m : p ∈ S) (k : Fl.Fr S H H2) : Fl.Fr S H (upd H2 p o) := k.trans (Fr.upd m)
theorem raw_put {a D : Addr} {H : Hp} {o u : HO} (n : a ≠ D) (e : H a = some o) : upd H D u a = some o := by rw [upd_ne n]; exact e
theorem free2 {H : Hp} {a b : Addr} {o : HO} (h1 : H a = none) (h2 : upd H a o b = none) : H b = none := Same.free (Fl.Same.new h1) h2
theorem free3 {H : Hp} {a b : Addr} {o : HO} (h : upd H a o b = none) : H b = none := by
  by_cases e : b = a
  · rw [e, upd_same] at h; cases h
  · rw [upd_ne e] at h; exact h
theorem ne2 {H : Hp} {a b : Addr} {o : HO} (h2 : upd H a o b = none) : a ≠ b := fun e => by rw [e, upd_same] at h2; cases h2
local macro_rules | `(tactic| walk_at "fl.raw") => `(tactic| ((with_reducible apply raw_put); (focus assumption); walk_at "fl.raw"))
theorem ok_law_words (T : Txt K mg) : Has P w K mg base 1 "_law_words" [] (spD fWds) := by
  refine has_of T.d_law_words sc_law_words bd_law_words (fun vs H Q E h => ?_) (fun f cdv A outer s H vs Q E hr h => ?_)
  · obtain ⟨S, ds, d, _, hd, ⟨rfl, _⟩, _⟩ := h
    rw [hd.len]; rfl
  · obtain ⟨S, ds, d, hS, hd, ⟨rfl, rfl⟩, q⟩ := h
    cases hd
    refine ⟨_, (pss_cons (ps_set (i := 0) sc_law_words.nd rfl (.inl rfl) (pe_lst (pa_cons (pe_lst (pa_cons pe_str (pa_cons pe_str pa_nil))) (pa_cons (pe_lst (pa_cons pe_str (pa_cons pe_str (pa_cons pe_str pa_nil)))) (pa_cons (pe_lst (pa_cons pe_str pa_nil)) (pa_cons (pe_lst (pa_cons pe_str pa_nil)) (pa_cons (pe_lst (pa_cons pe_str (pa_cons pe_str (pa_cons pe_str (pa_cons pe_str (pa_cons pe_str (pa_cons pe_str pa_nil))))))) pa_nil)))))))
      (pss_cons (ps_expr (pe_bm PySem.F.plainAttrs_list PySem.F.slot_list_append PySem.F.type_list_append mt_append (pv 0) (pa_cons (pe_lst (pa_cons pe_str (pa_cons pe_str (pa_cons pe_str (pa_cons pe_str (pa_cons pe_str (pa_cons pe_str (pa_cons pe_str (pa_cons pe_str (pa_cons pe_str (pa_cons pe_str pa_nil))))))))))) pa_nil)))
      (pss_cons (ps_expr (pe_bm PySem.F.plainAttrs_list PySem.F.slot_list_append PySem.F.type_list_append mt_append (pv 0) (pa_cons (pe_lst (pa_cons pe_str (pa_cons pe_str (pa_cons pe_str (pa_cons pe_str (pa_cons pe_str (pa_cons pe_str (pa_cons pe_str (pa_cons pe_str (pa_cons pe_str (pa_cons pe_str (pa_cons pe_str pa_nil)))))))))))) pa_nil)))
      (pss_one (ps_ret (pe_op op_cat (pv 0) (pe_lst (pa_cons (pe_lst (pa_cons pe_str (pa_cons pe_str (pa_cons pe_str (pa_cons pe_str (pa_cons pe_str pa_nil)))))) pa_nil)))))))), ?_⟩
    walk_at "fl.w"
    rename_i p0 h0 p1 h1 p2 h2 p3 h3 p4 h4 R hR p6 h6 p7 h7 p8 h8 p9 h9 p10 h10
    have fp0 : H p0 = none := h0
    have fp1 : H p1 = none := (free3 h1)
    have fp2 : H p2 = none := (free3 (free3 h2))
    have fp3 : H p3 = none := (free3 (free3 (free3 h3)))
    have fp4 : H p4 = none := (free3 (free3 (free3 (free3 h4))))
    have fR : H R = none := (free3 (free3 (free3 (free3 (free3 hR)))))
    have fp6 : H p6 = none := (free3 (free3 (free3 (free3 (free3 (free3 h6))))))
    have fp7 : H p7 = none := (free3 (free3 (free3 (free3 (free3 (free3 (free3 (free3 h7))))))))
    have fp8 : H p8 = none := (free3 (free3 (free3 (free3 (free3 (free3 (free3 (free3 (free3 (free3 h8))))))))))
    have fp9 : H p9 = none := (free3 (free3 (free3 (free3 (free3 (free3 (free3 (free3 (free3 (free3 (free3 h9)))))))))))
    have fp10 : H p10 = none := (free3 (free3 (free3 (free3 (free3 (free3 (free3 (free3 (free3 (free3 (free3 (free3 h10))))))))))))
    have n4 : p4 ≠ R := ne_of_none upd_same hR
    have n3 : p3 ≠ R := ne_of_none (raw_new h4 upd_same) hR
    have n2 : p2 ≠ R := ne_of_none (raw_new h4 (raw_new h3 upd_same)) hR
    have n1 : p1 ≠ R := ne_of_none (raw_new h4 (raw_new h3 (raw_new h2 upd_same))) hR
    have n0 : p0 ≠ R := ne_of_none (raw_new h4 (raw_new h3 (raw_new h2 (raw_new h1 upd_same)))) hR
    have n6 : p6 ≠ R := (ne_of_none upd_same h6).symm
    have n7 : p7 ≠ R := (ne_of_none upd_same h7).symm
    have n8 : p8 ≠ R := (ne_of_none upd_same h8).symm
    refine q _ _ (sm_of fR ?_) (.lst (hS.ni fp10) upd_same ?_)
    · repeat (first | exact Fl.Fr.refl | ((with_reducible apply Fl.Fr.newT); assumption) | ((with_reducible apply Fr.updT); simp))
    · exact (show DqA S _ [.ref p0, .ref p1, .ref p2, .ref p3, .ref p4, .ref p6, .ref p7, .ref p8] (W8.map strD) from (.cons (.lst (hS.ni fp0) (by walk_at "fl.raw") (strs_dq (ws := ["push", "size"]))) (.cons (.lst (hS.ni fp1) (by walk_at "fl.raw") (strs_dq (ws := ["drop", "jumpzero", "repeat"]))) (.cons (.lst (hS.ni fp2) (by walk_at "fl.raw") (strs_dq (ws := ["copy"]))) (.cons (.lst (hS.ni fp3) (by walk_at "fl.raw") (strs_dq (ws := ["swap"]))) (.cons (.lst (hS.ni fp4) (by walk_at "fl.raw") (strs_dq (ws := ["look", "go", "mode", "between", "jump", "call"]))) (.cons (.lst (hS.ni fp6) (by walk_at "fl.raw") (strs_dq (ws := ["negate", "amount", "down", "up", "round", "not", "value", "load", "get", "origin"]))) (.cons (.lst (hS.ni fp7) (by walk_at "fl.raw") (strs_dq (ws := ["add", "subtract", "multiply", "divide", "lesser", "greater", "less", "atmost", "equal", "and", "or"]))) (.cons (.lst (hS.ni fp8) (by walk_at "fl.raw") (strs_dq (ws := ["setvalue", "save", "move", "set", "align"]))) .nil)))))))))
def opD : Option Pr → PyData
  | none => .none
  | some p => Fl.prD p
def fEff (ds : List PyData) (d : PyData) : Prop := ∃ x : Str, ds = [.str x] ∧ d = opD (eff x)
theorem find_zip (x : Str) {p : Pr} {w : List Str} : ∀ (ws : List (List Str)) (es : List Pr) (i : Nat), (∀ j v, j < i → ws[j]? = some v → x ∉ v) → ws[i]? = some w → es[i]? = some p → x ∈ w → ((ws.zip es).find? fun r => decide (x ∈ r.1)).map (·.2) = some p
  | [], _, _, _, h, _, _ => by cases h
  | _ :: _, [], _, _, _, h, _ => by cases h
  | v :: ws, q :: es, 0, _, h1, h2, m => by
    cases h1
    cases h2
    rw [List.zip_cons_cons, List.find?_cons, decide_eq_true m]
    rfl
  | v :: ws, q :: es, i + 1, h, h1, h2, m => by
    have hv : x ∉ v := h 0 v (Nat.succ_pos i) rfl
    rw [List.zip_cons_cons, List.find?_cons, decide_eq_false hv]
    exact find_zip x ws es i (fun j v hj hv => h (j + 1) v (Nat.succ_lt_succ hj) hv) h1 h2 m
theorem find_zip0 (x : Str) : ∀ (ws : List (List Str)) (es : List Pr), (∀ (j : Nat) v, ws[j]? = some v → x ∉ v) → ((ws.zip es).find? fun r => decide (x ∈ r.1)).map (·.2) = none
  | [], _, _ => rfl
  | _ :: _, [], _ => rfl
  | v :: ws, q :: es, h => by
    have hv : x ∉ v := h 0 v rfl
    rw [List.zip_cons_cons, List.find?_cons, decide_eq_false hv]
    exact find_zip0 x ws es fun j v hv => h (j + 1) v hv
theorem ok_law_effect (T : Txt K mg) : Has P w K mg base 2 "_law_effect" ps_law_effect (spD fEff) := by
  have h_law_words := ok_law_words (P := P) (w := w) (base := base) T
  refine has_of T.d_law_effect sc_law_effect bd_law_effect (fun vs H Q E h => ?_) (fun f cdv A outer s H vs Q E hr h => ?_)
  · obtain ⟨S, ds, d, _, hd, ⟨x, rfl, _⟩, _⟩ := h
    rw [hd.len]; rfl
  · obtain ⟨S, ds, d, hS, hd, ⟨wd, rfl, rfl⟩, q⟩ := h
    obtain ⟨v, _, rfl, hv, hd⟩ := hd.consE
    cases hd.nilE
    cases hv
    refine ⟨_, (pss_cons (ps_set (i := 1) sc_law_effect.nd rfl (.inl rfl) (pe_h0 h_law_words (hr.mono (by decide))))
      (pss_cons (ps_set (i := 2) sc_law_effect.nd rfl (.inl rfl) (pe_lst (pa_cons (pe_tup (pa_cons pe_int (pa_cons pe_int pa_nil))) (pa_cons (pe_tup (pa_cons pe_int (pa_cons pe_int pa_nil))) (pa_cons (pe_tup (pa_cons pe_int (pa_cons pe_int pa_nil))) (pa_cons (pe_tup (pa_cons pe_int (pa_cons pe_int pa_nil))) (pa_cons (pe_tup (pa_cons pe_int (pa_cons pe_int pa_nil))) (pa_cons (pe_tup (pa_cons pe_int (pa_cons pe_int pa_nil))) (pa_cons (pe_tup (pa_cons pe_int (pa_cons pe_int pa_nil))) (pa_cons (pe_tup (pa_cons pe_int (pa_cons pe_int pa_nil))) pa_nil))))))))))
      (pss_cons (ps_for PassesOwn.never rfl (pi_range1 (by rfl) T.z_range (pa_cons pe_int pa_nil)) (pg_name (i := 3) sc_law_effect.nd rfl (.inl rfl))
        (pss_one (ps_if (pt_cmpR (opIn (K := K) rfl) (pv 0) (pe_ix (ixL (K := K) rfl) (pv 1) (pv 3) (fun _ _ => rfl)) (by rfl))
        (pss_one (ps_ret (pe_ix (ixL (K := K) rfl) (pv 2) (pv 3) (fun _ _ => rfl))))
        pss_nil)))
      (pss_one (ps_ret pe_non))))), ?_⟩
    walk_at "fl.w"
    refine spD_app S [] w8D hS .nil ⟨rfl, rfl⟩ (fun vR H1 sm1 dR => ?_)
    obtain ⟨R, xs, rfl, nR, rR, hw8⟩ := w8E dR
    walk_at "fl.w"
    rename_i p0 h0 p1 h1 p2 h2 p3 h3 p4 h4 p5 h5 p6 h6 p7 h7 cl hcl
    obtain ⟨G, hG⟩ : ∃ G : Hp, G = upd (upd (upd (upd (upd (upd (upd (upd (upd H1 p0 (.tup [.int 0, .int 1])) p1 (.tup [.int 1, .int 0])) p2 (.tup [.int 1, .int 2])) p3 (.tup [.int 2, .int 2])) p4 (.tup [.int 0, .int 0])) p5 (.tup [.int 1, .int 1])) p6 (.tup [.int 2, .int 1])) p7 (.tup [.int 2, .int 0])) cl (.lst [.ref p0, .ref p1, .ref p2, .ref p3, .ref p4, .ref p5, .ref p6, .ref p7]) := ⟨_, rfl⟩
    rw [← hG]
    have f0 : H p0 = none := Same.free sm1 h0
    have f1 : H p1 = none := Same.free sm1 (free3 h1)
    have f2 : H p2 = none := Same.free sm1 (free3 (free3 h2))
    have f3 : H p3 = none := Same.free sm1 (free3 (free3 (free3 h3)))
    have f4 : H p4 = none := Same.free sm1 (free3 (free3 (free3 (free3 h4))))
    have f5 : H p5 = none := Same.free sm1 (free3 (free3 (free3 (free3 (free3 h5)))))
    have f6 : H p6 = none := Same.free sm1 (free3 (free3 (free3 (free3 (free3 (free3 h6))))))
    have f7 : H p7 = none := Same.free sm1 (free3 (free3 (free3 (free3 (free3 (free3 (free3 h7)))))))
    have fcl : H cl = none := Same.free sm1 (free3 (free3 (free3 (free3 (free3 (free3 (free3 (free3 hcl))))))))
    have smG : Same H G := by rw [hG]; exact ((((((((sm1.trans (Fl.Same.new h0)).trans (Fl.Same.new h1)).trans (Fl.Same.new h2)).trans (Fl.Same.new h3)).trans (Fl.Same.new h4)).trans (Fl.Same.new h5)).trans (Fl.Same.new h6)).trans (Fl.Same.new h7)).trans (Fl.Same.new hcl)
    have smG1 : Same H1 G := by rw [hG]; exact ((((((((Fl.Same.new h0).trans (Fl.Same.new h1)).trans (Fl.Same.new h2)).trans (Fl.Same.new h3)).trans (Fl.Same.new h4)).trans (Fl.Same.new h5)).trans (Fl.Same.new h6)).trans (Fl.Same.new h7)).trans (Fl.Same.new hcl)
    have r0 : G p0 = some (.tup [.int 0, .int 1]) := by rw [hG]; exact raw_new hcl (raw_new h7 (raw_new h6 (raw_new h5 (raw_new h4 (raw_new h3 (raw_new h2 (raw_new h1 upd_same)))))))
    have r1 : G p1 = some (.tup [.int 1, .int 0]) := by rw [hG]; exact raw_new hcl (raw_new h7 (raw_new h6 (raw_new h5 (raw_new h4 (raw_new h3 (raw_new h2 upd_same))))))
    have r2 : G p2 = some (.tup [.int 1, .int 2]) := by rw [hG]; exact raw_new hcl (raw_new h7 (raw_new h6 (raw_new h5 (raw_new h4 (raw_new h3 upd_same)))))
    have r3 : G p3 = some (.tup [.int 2, .int 2]) := by rw [hG]; exact raw_new hcl (raw_new h7 (raw_new h6 (raw_new h5 (raw_new h4 upd_same))))
    have r4 : G p4 = some (.tup [.int 0, .int 0]) := by rw [hG]; exact raw_new hcl (raw_new h7 (raw_new h6 (raw_new h5 upd_same)))
    have r5 : G p5 = some (.tup [.int 1, .int 1]) := by rw [hG]; exact raw_new hcl (raw_new h7 (raw_new h6 upd_same))
    have r6 : G p6 = some (.tup [.int 2, .int 1]) := by rw [hG]; exact raw_new hcl (raw_new h7 upd_same)
    have r7 : G p7 = some (.tup [.int 2, .int 0]) := by rw [hG]; exact raw_new hcl upd_same
    have rcl : G cl = some (.lst [.ref p0, .ref p1, .ref p2, .ref p3, .ref p4, .ref p5, .ref p6, .ref p7]) := by rw [hG]; exact upd_same
    have hcnt : ∀ (i : Nat) (p : Pr), effL[i]? = some p → ∃ t, atI [V.ref p0, V.ref p1, V.ref p2, V.ref p3, V.ref p4, V.ref p5, V.ref p6, V.ref p7] (i : Int) = some (V.ref t) ∧ Dq S G (.ref t) (Fl.prD p) := fun i p hp => by
      match i, hp with
      | 0, hp => cases hp; exact ⟨p0, rfl, .tup (hS.ni f0) r0 (.cons (.int _) (.cons (.int _) .nil))⟩
      | 1, hp => cases hp; exact ⟨p1, rfl, .tup (hS.ni f1) r1 (.cons (.int _) (.cons (.int _) .nil))⟩
      | 2, hp => cases hp; exact ⟨p2, rfl, .tup (hS.ni f2) r2 (.cons (.int _) (.cons (.int _) .nil))⟩
      | 3, hp => cases hp; exact ⟨p3, rfl, .tup (hS.ni f3) r3 (.cons (.int _) (.cons (.int _) .nil))⟩
      | 4, hp => cases hp; exact ⟨p4, rfl, .tup (hS.ni f4) r4 (.cons (.int _) (.cons (.int _) .nil))⟩
      | 5, hp => cases hp; exact ⟨p5, rfl, .tup (hS.ni f5) r5 (.cons (.int _) (.cons (.int _) .nil))⟩
      | 6, hp => cases hp; exact ⟨p6, rfl, .tup (hS.ni f6) r6 (.cons (.int _) (.cons (.int _) .nil))⟩
      | 7, hp => cases hp; exact ⟨p7, rfl, .tup (hS.ni f7) r7 (.cons (.int _) (.cons (.int _) .nil))⟩
      | n + 8, hp => cases hp
    clear hG hcl fcl h0 f0 h1 f1 h2 f2 h3 f3 h4 f4 h5 f5 h6 f6 h7 f7 r0 r1 r2 r3 r4 r5 r6 r7
    refine forK_r (fun i σ' H' => (∃ u, σ' = [some (.str wd), some (.ref R), some (.ref cl), u]) ∧ H' = G ∧ ∀ j ws, j < i → W8[j]? = some ws → wd ∉ ws) ⟨⟨_, rfl⟩, rfl, fun j ws hj => absurd hj (Nat.not_lt_zero _)⟩ ?_ ?_
    · intro i σ' H' hi ⟨⟨u, e⟩, e2, hno⟩
      subst e e2
      have hi8 : i < 8 := hi
      obtain ⟨ws, hws⟩ : ∃ ws, W8[i]? = some ws := ⟨_, List.getElem?_eq_getElem (show i < W8.length from hi8)⟩
      obtain ⟨p, hp⟩ : ∃ p, effL[i]? = some p := ⟨_, List.getElem?_eq_getElem (show i < effL.length from hi8)⟩
      obtain ⟨l, al, ml, rl⟩ := hw8 i ws hws
      obtain ⟨t, at', dt⟩ := hcnt i p hp
      have rl' := smG1 _ _ rl
      have rR' := smG1 _ _ rR
      rw [show (0 : Int) + (i : Int) = (i : Int) by omega]
      walk_at "fl.w"
      refine g_inL (SqL.of rl') rfl (strs_flat ws) ?_
      rw [strs_in]
      walk_at "fl.w"
      refine g_ite (fun hm => ?_) (fun hm => ?_)
      · walk_at "fl.w"
        refine q _ _ smG ?_
        rw [show eff wd = some p from find_zip wd W8 effL i hno hws hp hm]
        exact dt
      · walk_at "fl.w"
        refine ⟨⟨_, rfl⟩, rfl, fun j v hj hv => ?_⟩
        rcases (by omega : j < i ∨ j = i) with h | rfl
        · exact hno j v h hv
        · cases hv.symm.trans hws
          exact hm
    · intro σ' H' ⟨⟨u, e⟩, e2, hno⟩
      subst e e2
      walk_at "fl.w"
      refine q _ _ smG ?_
      rw [show eff wd = none from find_zip0 wd W8 effL fun j v hv => hno j v (show j < 8 from (List.getElem?_eq_some_iff.mp hv).1) hv]
      exact .non
end

section
variable {P : Program} {w : World} {K : PySem.W.Frag} {mg : Str → Option Value} {base : Heap}
theorem g_ifE {c : TT} {ta tb : TE} {σ : L2.St} {H : Hp} {Q : VK} (h : c σ H fun b H1 => if b = true then ta σ H1 Q else tb σ H1 Q) : tIf c ta tb σ H Q := h
local macro_rules | `(tactic| walk_at "fl.t") => `(tactic| (with_reducible refine g_ifE ?_))
local macro_rules | `(tactic| walk_at "fl.w") => `(tactic| repeat walk_at "fl.t")
theorem g_neS {i j : Str} {H : Hp} {Q : VK} (q : Q (.bl (!decide (i = j))) H) : rNe (.str i) (.str j) H Q := ⟨rfl, by
  have e : decide (V.str i = V.str j) = decide (i = j) := by simp
  rw [e]; exact q⟩
abbrev In := Str × Int
def inD (r : In) : PyData := .tuple [.str r.1, .int r.2]
def codeD (c : List In) : PyData := .list (c.map inD)
abbrev Co := Int × Int × Int × Int
def coD (c : Co) : PyData := .tuple [.int c.1, .int c.2.1, .int c.2.2.1, .int c.2.2.2]
def costsD (cs : List Co) : PyData := .list (cs.map coD)
def tabD (t : List (Option Pr)) : PyData := .list (t.map opD)
def ocD : Option Co → PyData
  | none => .none
  | some c => coD c
def costOf (cs : List Co) (n : Int) : Option Co := if 0 ≤ n then cs[n.toNat]? else none
/-- a number of 32 bits -/
def B32 (n : Int) : Prop := -2147483648 ≤ n ∧ n < 2147483648
def spKp : Sp := fun vs H Q _ => ∃ n : Int, vs = [.int n] ∧ B32 n ∧ Q (.int n) H
theorem kp_app {n : Int} {H : Hp} {Q : VK} {E : XK} (h : B32 n) (q : Q (.int n) H) : spKp [.int n] H Q E := ⟨n, rfl, h, q⟩
theorem ok_kept (T : Txt K mg) : Has P w K mg base 1 "kept" ps_kept spKp := by
  refine has_of T.d_kept sc_kept bd_kept (fun vs H Q E h => ?_) (fun f cdv A outer s H vs Q E hr h => ?_)
  · obtain ⟨n, rfl, _⟩ := h
    rfl
  · obtain ⟨n, rfl, ⟨h0, h1⟩, q⟩ := h
    refine ⟨_, (pss_one (ps_ret (pe_op op_add (pe_op op_mod (pe_op op_sub (pv 0) (pe_gv (by rfl) T.g_LEAST_NUMBER)) (pe_gv (by rfl) T.g_MANY_NUMBERS)) (pe_gv (by rfl) T.g_LEAST_NUMBER)))), ?_⟩
    walk_at "fl.w"
    rw [show (n - -2147483648) % 4294967296 + -2147483648 = n by omega]
    exact q
def fKc (ds : List PyData) (d : PyData) : Prop := ∃ c : List In, ds = [codeD c] ∧ c.length < 1000 ∧ (∀ r, r ∈ c → B32 r.2) ∧ d = codeD c
theorem ok_kept_code (T : Txt K mg) : Has P w K mg base 2 "kept_code" ps_kept_code (spD fKc) := by
  have h_kept := ok_kept (P := P) (w := w) (base := base) T
  refine has_of T.d_kept_code sc_kept_code bd_kept_code (fun vs H Q E h => ?_) (fun f cdv A outer s H vs Q E hr h => ?_)
  · obtain ⟨S, ds, d, _, hd, ⟨c, rfl, _⟩, _⟩ := h
    rw [hd.len]; rfl
  · obtain ⟨S, ds, d, hS, hd, ⟨c, rfl, hc, hb, rfl⟩, q⟩ := h
    obtain ⟨v, _, rfl, hv, hd⟩ := hd.consE
    cases hd.nilE
    obtain ⟨a, xs, rfl, na, ra, hX⟩ := hv.lstE
    refine ⟨_, (pss_one (ps_ret (pe_lc (own := [("word", 1), ("number", 2)]) rfl sc_kept_code.nd (piL (K := K) rfl (pv 0)) (blkOk_by (by kernel_rfl)) (fun _ _ _ _ _ => (pgT (n := 2) (K := K) rfl (by rfl) (pgs_cons (pg_name (i := 1) sc_kept_code.nd rfl (.inl rfl)) (pgs_cons (pg_name (i := 2) sc_kept_code.nd rfl (.inl rfl)) pgs_nil)))) (fun _ _ _ _ _ => pts_nil) (fun _ _ _ _ _ => (pe_tup (pa_cons (pv 1) (pa_cons (pe_h h_kept (hr.mono (by decide)) (pa_cons (pv 2) pa_nil)) pa_nil))))))), ?_⟩
    walk_at "fl.w"
    refine lcL (S := S) (fun i => (c.map inD)[i]?) hS (.lst na ra hX) (by simp; omega) ?_ ?_
    · intro D i x e H2 hD he sm al hxe R N hR hN
      rw [List.getElem?_map] at he
      cases hc : c[i]? with
      | none => rw [hc] at he; cases he
      | some r =>
        rw [hc] at he
        cases he
        have hbr := hb r (List.mem_of_getElem? hc)
        obtain ⟨t, ts, rfl, nt, ht, hT⟩ := hxe.tupE
        obtain ⟨_, _, rfl, h1, hT⟩ := hT.consE
        obtain ⟨_, _, rfl, h2, hT⟩ := hT.consE
        cases hT.nilE
        cases h1
        cases h2.intE
        walk_at "fl.w"
        refine ⟨rfl, ?_⟩
        walk_at "fl.w"
        refine kp_app hbr ?_
        walk_at "fl.w"
        rename_i p hp
        exact hR _ _ _ (by rw [List.getElem?_map, hc]; rfl) (Fl.Same.new hp) (Dq.newT al hp (.cons (.str _) (.cons (.int _) .nil)))
    · intro D H2 sm hD hq
      rw [fm_all (by simp)] at hq
      exact q _ _ sm hq
def fCo (ds : List PyData) (d : PyData) : Prop := ∃ (cs : List Co) (n : Int), ds = [costsD cs, .int n] ∧ cs.length < 1000 ∧ d = ocD (costOf cs n)
theorem ok_cost_of (T : Txt K mg) : Has P w K mg base 1 "cost_of" ps_cost_of (spD fCo) := by
  refine has_of T.d_cost_of sc_cost_of bd_cost_of (fun vs H Q E h => ?_) (fun f cdv A outer s H vs Q E hr h => ?_)
  · obtain ⟨S, ds, d, _, hd, ⟨c, n, rfl, _⟩, _⟩ := h
    rw [hd.len]; rfl
  · obtain ⟨S, ds, d, hS, hd, ⟨c, n, rfl, hc, rfl⟩, q⟩ := h
    obtain ⟨v, _, rfl, hv, hd⟩ := hd.consE
    obtain ⟨_, _, rfl, h2, hd⟩ := hd.consE
    cases hd.nilE
    cases h2.intE
    obtain ⟨a, xs, rfl, na, ra, hX⟩ := hv.lstE
    refine ⟨_, (pss_one (ps_ret (pe_ifExp (pt_chain op_le op_lt pe_int (pv 1) (pe_callB (clLen (K := K) rfl) (by rfl) T.z_len (by decide +kernel) (pa_cons (pv 0) pa_nil))) (pe_ix (ixL (K := K) rfl) (pv 0) (pv 1) (fun _ _ => rfl)) pe_non))), ?_⟩
    have hl := hX.len
    rw [List.length_map] at hl
    walk_at "fl.w"
    refine g_ite (fun h0 => ?_) (fun h0 => ?_)
    · walk_at "fl.w"
      refine g_ite (fun h1 => ?_) (fun h1 => ?_)
      · have hlt : n.toNat < c.length := by omega
        have hco : c[n.toNat]? = some c[n.toNat] := List.getElem?_eq_getElem hlt
        obtain ⟨x, hx, dx⟩ := hX.getD (i := n.toNat) (d := coD c[n.toNat]) (by rw [List.getElem?_map, hco]; rfl)
        have ax : atI xs n = some x := by
          have := atI_nat hx
          rwa [show ((n.toNat : Nat) : Int) = n by omega] at this
        walk_at "fl.w"
        refine q _ _ (Same.refl _) ?_
        rw [show costOf c n = some c[n.toNat] by unfold costOf; rw [if_pos h0, hco]]
        exact dx
      · walk_at "fl.w"
        refine q _ _ (Same.refl _) ?_
        rw [show costOf c n = none by unfold costOf; rw [if_pos h0]; exact List.getElem?_eq_none (by omega)]
        exact .non
    · walk_at "fl.w"
      refine q _ _ (Same.refl _) ?_
      rw [show costOf c n = none by unfold costOf; rw [if_neg h0]]
      exact .non
def fTs (ds : List PyData) (d : PyData) : Prop := ∃ c : List In, ds = [codeD c] ∧ c.length < 1000 ∧ d = codeD c
theorem ok_tuples_of (T : Txt K mg) : Has P w K mg base 1 "tuples_of" ps_tuples_of (spD fTs) := by
  refine has_of T.d_tuples_of sc_tuples_of bd_tuples_of (fun vs H Q E h => ?_) (fun f cdv A outer s H vs Q E hr h => ?_)
  · obtain ⟨S, ds, d, _, hd, ⟨c, rfl, _⟩, _⟩ := h
    rw [hd.len]; rfl
  · obtain ⟨S, ds, d, hS, hd, ⟨c, rfl, hc, rfl⟩, q⟩ := h
    obtain ⟨v, _, rfl, hv, hd⟩ := hd.consE
    cases hd.nilE
    obtain ⟨a, xs, rfl, na, ra, hX⟩ := hv.lstE
    refine ⟨_, (pss_one (ps_ret (pe_lc (own := [("row", 1)]) rfl sc_tuples_of.nd (piL (K := K) rfl (pv 0)) (blkOk_by (by kernel_rfl)) (fun _ _ _ _ _ => (pg_name (i := 1) sc_tuples_of.nd rfl (.inl rfl))) (fun _ _ _ _ _ => pts_nil) (fun _ _ _ _ _ => (pe_callTy (clTupOf (K := K) rfl) (by rfl) T.z_tuple (by decide +kernel) (pa_cons (pv 1) pa_nil)))))), ?_⟩
    walk_at "fl.w"
    refine lcL (S := S) (fun i => (c.map inD)[i]?) hS (.lst na ra hX) (by simp; omega) ?_ ?_
    · intro D i x e H2 hD he sm al hxe R N hR hN
      rw [List.getElem?_map] at he
      cases hc : c[i]? with
      | none => rw [hc] at he; cases he
      | some r =>
        rw [hc] at he
        cases he
        obtain ⟨t, ts, rfl, nt, ht, hT⟩ := hxe.tupE
        walk_at "fl.w"
        refine ⟨rfl, ?_⟩
        walk_at "fl.w"
        exact ⟨_, _, rfl, .inr ⟨SqT.of ht, hR _ _ _ (by rw [List.getElem?_map, hc]; rfl) (Same.refl _) (.tup nt ht hT)⟩⟩
    · intro D H2 sm hD hq
      rw [fm_all (by simp)] at hq
      exact q _ _ sm hq
/-- four numbers, taken apart -/
theorem coE {S : List Addr} {H : Hp} {v : V} {c : Co} (h : Dq S H v (coD c)) : ∃ a, v = .ref a ∧ a ∉ S ∧ H a = some (.tup [.int c.1, .int c.2.1, .int c.2.2.1, .int c.2.2.2]) := by
  obtain ⟨t, ts, rfl, nt, ht, hT⟩ := h.tupE
  obtain ⟨_, _, rfl, h1, hT⟩ := hT.consE
  obtain ⟨_, _, rfl, h2, hT⟩ := hT.consE
  obtain ⟨_, _, rfl, h3, hT⟩ := hT.consE
  obtain ⟨_, _, rfl, h4, hT⟩ := hT.consE
  cases hT.nilE
  cases h1.intE
  cases h2.intE
  cases h3.intE
  cases h4.intE
  exact ⟨t, rfl, nt, ht⟩
theorem prE {S : List Addr} {H : Hp} {v : V} {c : Pr} (h : Dq S H v (Fl.prD c)) : ∃ a, v = .ref a ∧ a ∉ S ∧ H a = some (.tup [.int c.1, .int c.2]) := by
  obtain ⟨t, ts, rfl, nt, ht, hT⟩ := h.tupE
  obtain ⟨_, _, rfl, h1, hT⟩ := hT.consE
  obtain ⟨_, _, rfl, h2, hT⟩ := hT.consE
  cases hT.nilE
  cases h1.intE
  cases h2.intE
  exact ⟨t, rfl, nt, ht⟩
theorem inE {S : List Addr} {H : Hp} {v : V} {c : In} (h : Dq S H v (inD c)) : ∃ a, v = .ref a ∧ a ∉ S ∧ H a = some (.tup [.str c.1, .int c.2]) := by
  obtain ⟨t, ts, rfl, nt, ht, hT⟩ := h.tupE
  obtain ⟨_, _, rfl, h1, hT⟩ := hT.consE
  obtain ⟨_, _, rfl, h2, hT⟩ := hT.consE
  cases hT.nilE
  cases h1
  cases h2.intE
  exact ⟨t, rfl, nt, ht⟩
def withinP (w : Co) (m : Int) : Bool := decide (w.2.2.1 ≤ m) && (decide (w.2.2.2 ≤ 32) && decide (w.2.1 ≤ 4096))
def fIw (ds : List PyData) (d : PyData) : Prop := ∃ (w : Co) (m : Int), ds = [coD w, .int m] ∧ d = .bool (withinP w m)
theorem ok_is_within (T : Txt K mg) : Has P w K mg base 1 "is_within" ps_is_within (spD fIw) := by
  refine has_of T.d_is_within sc_is_within bd_is_within (fun vs H Q E h => ?_) (fun f cdv A outer s H vs Q E hr h => ?_)
  · obtain ⟨S, ds, d, _, hd, ⟨c, n, rfl, _⟩, _⟩ := h
    rw [hd.len]; rfl
  · obtain ⟨S, ds, d, hS, hd, ⟨c, n, rfl, rfl⟩, q⟩ := h
    obtain ⟨v, _, rfl, hv, hd⟩ := hd.consE
    obtain ⟨_, _, rfl, h2, hd⟩ := hd.consE
    cases hd.nilE
    cases h2.intE
    obtain ⟨a, rfl, na, ra⟩ := coE hv
    refine ⟨_, (pss_one (ps_ret (pe_and (pe_cmpR op_le (pe_ix (ixT (K := K) rfl) (pv 0) pe_int (fun _ _ => rfl)) (pv 1) (nomark _)) (pe_and (pe_cmpR op_le (pe_ix (ixT (K := K) rfl) (pv 0) pe_int (fun _ _ => rfl)) (pe_gv (by rfl) T.g_MOST_VALUES) (nomark _)) (pe_one (pe_cmpR op_le (pe_ix (ixT (K := K) rfl) (pv 0) pe_int (fun _ _ => rfl)) (pe_gv (by rfl) T.g_MOST_STEPS) (nomark _))))))), ?_⟩
    walk_at "fl.w"
    refine g_ite (fun h1 => ?_) (fun h1 => ?_)
    · walk_at "fl.w"
      refine g_ite (fun h2 => ?_) (fun h2 => ?_)
      · walk_at "fl.w"
        refine q _ _ (Same.refl _) ?_
        rw [show withinP c n = decide (c.2.1 ≤ 4096) by unfold withinP; simp [h1, h2]]
        exact .bl _
      · refine q _ _ (Same.refl _) ?_
        rw [show withinP c n = false by unfold withinP; simp [h2]]
        exact .bl _
    · refine q _ _ (Same.refl _) ?_
      rw [show withinP c n = false by unfold withinP; simp [h1]]
      exact .bl _
theorem mx_if (a b : Int) : max a b = if b > a then b else a := by
  rw [Int.max_def]
  split <;> split <;> omega
def raisedP (it : Option Pr) (w : Co) : Pr := (w.1, max (match it with | none => 0 | some p => p.2) w.2.1)
def fRa (ds : List PyData) (d : PyData) : Prop := ∃ (it : Option Pr) (w : Co), ds = [opD it, coD w] ∧ d = Fl.prD (raisedP it w)
theorem ok_raised (T : Txt K mg) : Has P w K mg base 1 "raised" ps_raised (spD fRa) := by
  refine has_of T.d_raised sc_raised bd_raised (fun vs H Q E h => ?_) (fun f cdv A outer s H vs Q E hr h => ?_)
  · obtain ⟨S, ds, d, _, hd, ⟨c, n, rfl, _⟩, _⟩ := h
    rw [hd.len]; rfl
  · obtain ⟨S, ds, d, hS, hd, ⟨it, c, rfl, rfl⟩, q⟩ := h
    obtain ⟨v, _, rfl, hv, hd⟩ := hd.consE
    obtain ⟨_, _, rfl, h2, hd⟩ := hd.consE
    cases hd.nilE
    obtain ⟨a, rfl, na, ra⟩ := coE h2
    refine ⟨_, (pss_cons (ps_set (i := 2) sc_raised.nd rfl (.inl rfl) (pe_ifExp (pt_cmpR op_isN (pv 0) pe_non (nomark _)) pe_int (pe_ix (ixT (K := K) rfl) (pv 0) pe_int (fun _ _ => rfl))))
      (pss_one (ps_ret (pe_tup (pa_cons (pe_ix (ixT (K := K) rfl) (pv 1) pe_int (fun _ _ => rfl)) (pa_cons (pe_callB (call_max' rfl) (by rfl) T.z_max (by decide +kernel) (pa_cons (pv 2) (pa_cons (pe_ix (ixT (K := K) rfl) (pv 1) pe_int (fun _ _ => rfl)) pa_nil))) pa_nil)))))), ?_⟩
    cases it with
    | none =>
      cases hv.nonE
      walk_at "fl.w"
      refine g_ite (fun _ => ?_) (fun h => absurd rfl h)
      walk_at "fl.w"
      rename_i t ht
      refine q _ _ (Fl.Same.new ht) ?_
      rw [show raisedP none c = (c.1, if c.2.1 > 0 then c.2.1 else 0) by unfold raisedP; rw [mx_if]]
      exact .tup (hS.ni ht) upd_same (.cons (.int _) (.cons (.int _) .nil))
    | some p =>
      obtain ⟨b, rfl, nb, rb⟩ := prE hv
      walk_at "fl.w"
      refine g_ite (fun h => by cases h) (fun _ => ?_)
      walk_at "fl.w"
      rename_i t ht
      refine q _ _ (Fl.Same.new ht) ?_
      rw [show raisedP (some p) c = (c.1, if c.2.1 > p.2 then c.2.1 else p.2) by unfold raisedP; rw [mx_if]]
      exact .tup (hS.ni ht) upd_same (.cons (.int _) (.cons (.int _) .nil))
def jzL : List Str := ["jump", "jumpzero"]
/-- the places behind an instruction -/
def behP (r : In) (at' : Int) : List Int := (if r.1 = "jump" then [] else [at' + 1]) ++ if r.1 ∈ jzL then [at' + 1 + r.2] else []
def fPb (ds : List PyData) (d : PyData) : Prop := ∃ (c : List In) (i : Nat) (r : In), ds = [codeD c, .int i] ∧ c.length < 1000 ∧ c[i]? = some r ∧ d = .list ((behP r i).map PyData.int)
theorem ok_places_behind (T : Txt K mg) : Has P w K mg base 1 "places_behind" ps_places_behind (spD fPb) := by
  refine has_of T.d_places_behind sc_places_behind bd_places_behind (fun vs H Q E h => ?_) (fun f cdv A outer s H vs Q E hr h => ?_)
  · obtain ⟨S, ds, d, _, hd, ⟨c, i, r, rfl, _⟩, _⟩ := h
    rw [hd.len]; rfl
  · obtain ⟨S, ds, d, hS, hd, ⟨c, i, r, rfl, hz, hc, rfl⟩, q⟩ := h
    obtain ⟨v, _, rfl, hv, hd⟩ := hd.consE
    obtain ⟨_, _, rfl, h2, hd⟩ := hd.consE
    cases hd.nilE
    cases h2.intE
    obtain ⟨a, xs, rfl, na, ra, hX⟩ := hv.lstE
    obtain ⟨x, hx, dx⟩ := hX.getD (i := i) (d := inD r) (by rw [List.getElem?_map, hc]; rfl)
    obtain ⟨b, rfl, nb, rb⟩ := inE dx
    have ax : atI xs (i : Int) = some (.ref b) := atI_nat hx
    refine ⟨_, (pss_cons (ps_asg (pe_ix (ixL (K := K) rfl) (pv 0) (pv 1) (fun _ _ => rfl)) (pgT (n := 2) (K := K) rfl (by rfl) (pgs_cons (pg_name (i := 2) sc_places_behind.nd rfl (.inl rfl)) (pgs_cons (pg_name (i := 3) sc_places_behind.nd rfl (.inl rfl)) pgs_nil))))
      (pss_cons (ps_set (i := 4) sc_places_behind.nd rfl (.inl rfl) (pe_lst pa_nil))
      (pss_cons (ps_if (pt_cmpR op_ne (pv 2) pe_str (nomark _))
        (pss_one (ps_expr (pe_bm PySem.F.plainAttrs_list PySem.F.slot_list_append PySem.F.type_list_append mt_append (pv 4) (pa_cons (pe_op op_add (pv 1) pe_int) pa_nil))))
        pss_nil)
      (pss_cons (ps_if (pt_cmpR (opIn (K := K) rfl) (pv 2) (pe_glob (by rfl) T.gt_JUMPS (v := .ref (adr mg "JUMPS")) rfl) (by rfl))
        (pss_one (ps_expr (pe_bm PySem.F.plainAttrs_list PySem.F.slot_list_append PySem.F.type_list_append mt_append (pv 4) (pa_cons (pe_op op_add (pe_op op_add (pv 1) pe_int) (pv 3)) pa_nil))))
        pss_nil)
      (pss_one (ps_ret (pv 4))))))), ?_⟩
    walk_at "fl.w"
    rename_i p hp
    have fS : p ∉ S := hS.ni hp
    have gJ := T.gs_JUMPS
    refine g_neS ?_
    walk_at "fl.w"
    have f1 : Fl.Fr [p] H (upd H p (.lst [])) := Fr.same (Fl.Same.new hp)
    refine g_iteN (fun h1 => ?_) (fun h1 => ?_)
    · walk_at "fl.w"
      refine g_inT (xs := jzL.map V.str) (gJ _) rfl (strs_flat _) ?_
      rw [strs_in]
      walk_at "fl.w"
      refine g_ite (fun h2 => ?_) (fun h2 => ?_)
      · walk_at "fl.w"
        refine q _ _ (sm_of hp ((f1.trans (Fr.upd (by simp))).trans (Fr.upd (by simp)))) ?_
        rw [show behP r i = [(i : Int) + 1, (i : Int) + 1 + r.2] by unfold behP; rw [if_neg h1, if_pos h2]; rfl]
        exact .lst fS upd_same (.cons (.int _) (.cons (.int _) .nil))
      · walk_at "fl.w"
        refine q _ _ (sm_of hp (f1.trans (Fr.upd (by simp)))) ?_
        rw [show behP r i = [(i : Int) + 1] by unfold behP; rw [if_neg h1, if_neg h2]; rfl]
        exact .lst fS upd_same (.cons (.int _) .nil)
    · walk_at "fl.w"
      refine g_inT (xs := jzL.map V.str) (gJ _) rfl (strs_flat _) ?_
      rw [strs_in]
      walk_at "fl.w"
      have hj : r.1 ∈ jzL := by rw [h1]; decide
      refine g_ite (fun h2 => ?_) (fun h2 => absurd hj h2)
      walk_at "fl.w"
      refine q _ _ (sm_of hp (f1.trans (Fr.upd (by simp)))) ?_
      rw [show behP r i = [(i : Int) + 1 + r.2] by unfold behP; rw [if_pos h1, if_pos h2]; rfl]
      exact .lst fS upd_same (.cons (.int _) .nil)
def fNx := fPb
theorem ok_law_next (T : Txt K mg) : Has P w K mg base 1 "_law_next" ps_law_next (spD fNx) := by
  refine has_of T.d_law_next sc_law_next bd_law_next (fun vs H Q E h => ?_) (fun f cdv A outer s H vs Q E hr h => ?_)
  · obtain ⟨S, ds, d, _, hd, ⟨c, i, r, rfl, _⟩, _⟩ := h
    rw [hd.len]; rfl
  · obtain ⟨S, ds, d, hS, hd, ⟨c, i, r, rfl, hz, hc, rfl⟩, q⟩ := h
    obtain ⟨v, _, rfl, hv, hd⟩ := hd.consE
    obtain ⟨_, _, rfl, h2, hd⟩ := hd.consE
    cases hd.nilE
    cases h2.intE
    obtain ⟨a, xs, rfl, na, ra, hX⟩ := hv.lstE
    obtain ⟨x, hx, dx⟩ := hX.getD (i := i) (d := inD r) (by rw [List.getElem?_map, hc]; rfl)
    obtain ⟨b, rfl, nb, rb⟩ := inE dx
    have ax : atI xs (i : Int) = some (.ref b) := atI_nat hx
    refine ⟨_, (pss_cons (ps_set (i := 2) sc_law_next.nd rfl (.inl rfl) (pe_ix (ixL (K := K) rfl) (pv 0) (pv 1) (fun _ _ => rfl)))
      (pss_cons (ps_if (pt_cmpR op_eq (pe_ix (ixT (K := K) rfl) (pv 2) pe_int (fun _ _ => rfl)) pe_str (nomark _))
        (pss_one (ps_ret (pe_lst (pa_cons (pe_op op_add (pe_op op_add (pv 1) pe_int) (pe_ix (ixT (K := K) rfl) (pv 2) pe_int (fun _ _ => rfl))) pa_nil))))
        pss_nil)
      (pss_cons (ps_if (pt_cmpR op_eq (pe_ix (ixT (K := K) rfl) (pv 2) pe_int (fun _ _ => rfl)) pe_str (nomark _))
        (pss_one (ps_ret (pe_lst (pa_cons (pe_op op_add (pv 1) pe_int) (pa_cons (pe_op op_add (pe_op op_add (pv 1) pe_int) (pe_ix (ixT (K := K) rfl) (pv 2) pe_int (fun _ _ => rfl))) pa_nil)))))
        pss_nil)
      (pss_one (ps_ret (pe_lst (pa_cons (pe_op op_add (pv 1) pe_int) pa_nil))))))), ?_⟩
    walk_at "fl.w"
    refine g_ite (fun h1 => ?_) (fun h1 => ?_)
    · walk_at "fl.w"
      rename_i p hp
      refine q _ _ (Fl.Same.new hp) ?_
      rw [show behP r i = [(i : Int) + 1 + r.2] by unfold behP; rw [if_pos h1, if_pos (by rw [h1]; decide)]; rfl]
      exact .lst (hS.ni hp) upd_same (.cons (.int _) .nil)
    walk_at "fl.w"
    refine g_ite (fun h2 => ?_) (fun h2 => ?_)
    · walk_at "fl.w"
      rename_i p hp
      refine q _ _ (Fl.Same.new hp) ?_
      rw [show behP r i = [(i : Int) + 1, (i : Int) + 1 + r.2] by unfold behP; rw [if_neg h1, if_pos (by rw [h2]; decide)]; rfl]
      exact .lst (hS.ni hp) upd_same (.cons (.int _) (.cons (.int _) .nil))
    walk_at "fl.w"
    rename_i p hp
    refine q _ _ (Fl.Same.new hp) ?_
    rw [show behP r i = [(i : Int) + 1] by unfold behP; rw [if_neg h1, if_neg (by unfold jzL; simp only [List.mem_cons, List.not_mem_nil, or_false]; exact fun z => z.elim h1 h2)]; rfl]
    exact .lst (hS.ni hp) upd_same (.cons (.int _) .nil)
end

section
variable {P : Program} {w : World} {K : PySem.W.Frag} {mg : Str → Option Value} {base : Heap}
local macro_rules | `(tactic| walk_at "fl.t") => `(tactic| (with_reducible refine g_chainW ?_))
local macro_rules | `(tactic| walk_at "fl.t") => `(tactic| (with_reducible refine g_ifE ?_))
local macro_rules | `(tactic| walk_at "fl.w") => `(tactic| repeat walk_at "fl.t")
theorem g_ninT {K : PySem.W.Frag} {x : V} {p : Addr} {xs : List V} {H : Hp} {Q : VK} (h : SqT K H p xs) (f1 : flatV x = true) (f2 : xs.all flatV = true) (q : Q (.bl (!inV x xs)) H) : rIn K true x (.ref p) H Q := ⟨p, xs, rfl, .inr h, f1, f2, q⟩
def caL : List Str := ["call", "repeat"]
/-- the way on from an instruction; left: the places from it to the end -/
def wayP (r : In) (left : Int) (p : Pr) (cs : List Co) : Option Co :=
  match eff r.1 with
  | none => none
  | some e => if r.1 ∈ jzL ∧ ¬ (0 ≤ r.2 ∧ r.2 < left) then none else
    if r.1 ∈ caL then match costOf cs r.2 with
      | none => none
      | some c => if r.1 = "repeat" ∧ c.2.1 ≠ 0 then none else
        some (p.1 - e.1 + e.2 + c.2.1, p.2 + 1 + (if r.1 = "repeat" then 16 else 1) * c.2.2.2, max (e.1 - p.1) (c.1 - (p.1 - e.1 + e.2)), p.1 - e.1 + e.2 + max c.2.1 c.2.2.1)
    else some (p.1 - e.1 + e.2, p.2 + 1, e.1 - p.1, p.1 - e.1 + e.2)
def fWy (ds : List PyData) (d : PyData) : Prop := ∃ (c : List In) (i : Nat) (r : In) (p : Pr) (cs : List Co), ds = [codeD c, .int i, Fl.prD p, costsD cs] ∧ c.length < 1000 ∧ cs.length < 1000 ∧ c[i]? = some r ∧ r.1 ∈ allW ∧ (∀ co, co ∈ cs → co.2.2.2.natAbs ≤ 1000000) ∧ d = ocD (wayP r ((c.length : Int) - i) p cs)
theorem ok_way_on (T : Txt K mg) (I : WoK K w mg) : Has P w K mg base 2 "way_on" ps_way_on (spD fWy) := by
  have h_cost_of := ok_cost_of (P := P) (w := w) (base := base) T
  have gd_WORDS := I.gW
  obtain ⟨esW, nW, kd_WORDS⟩ := I.kW
  refine has_of T.d_way_on sc_way_on bd_way_on (fun vs H Q E h => ?_) (fun f cdv A outer s H vs Q E hr h => ?_)
  · obtain ⟨S, ds, d, _, hd, ⟨c, i, r, p, cs, rfl, _⟩, _⟩ := h
    rw [hd.len]; rfl
  · obtain ⟨S, ds, d, hS, hd, ⟨c, i, r, p, cs, rfl, hz, hzc, hc, hw, hb, rfl⟩, q⟩ := h
    obtain ⟨v, _, rfl, hv, hd⟩ := hd.consE
    obtain ⟨_, _, rfl, h2, hd⟩ := hd.consE
    obtain ⟨_, _, rfl, h3, hd⟩ := hd.consE
    obtain ⟨vc, _, rfl, h4, hd⟩ := hd.consE
    cases hd.nilE
    cases h2.intE
    obtain ⟨a, xs, rfl, na, ra, hX⟩ := hv.lstE
    obtain ⟨x, hx, dx⟩ := hX.getD (i := i) (d := inD r) (by rw [List.getElem?_map, hc]; rfl)
    obtain ⟨b, rfl, nb, rb⟩ := inE dx
    obtain ⟨e, rfl, ne, re⟩ := prE h3
    have ax : atI xs (i : Int) = some (.ref b) := atI_nat hx
    obtain ⟨rW, nW1, cW⟩ := I.fW r.1 hw
    have hef := eff_tab r.1 hw
    have hl := hX.len
    rw [List.length_map] at hl
    refine ⟨_, (pss_cons (ps_asg (pe_ix (ixL (K := K) rfl) (pv 0) (pv 1) (fun _ _ => rfl)) (pgT (n := 2) (K := K) rfl (by rfl) (pgs_cons (pg_name (i := 4) sc_way_on.nd rfl (.inl rfl)) (pgs_cons (pg_name (i := 5) sc_way_on.nd rfl (.inl rfl)) pgs_nil))))
      (pss_cons (ps_if (PW.pt (pw_or (pt_cmpR (op_notIn_kd kd_WORDS) (pv 4) (pe_glob (by rfl) gd_WORDS (v := .ref (adr mg "WORDS")) rfl) (by rfl)) (pw_or1 (PW.pt (pw_and (pt_cmpR (opIn (K := K) rfl) (pv 4) (pe_glob (by rfl) T.gt_JUMPS (v := .ref (adr mg "JUMPS")) rfl) (by rfl)) (pw_and1 (pt_not (pt_chain op_le op_lt pe_int (pv 5) (pe_op op_sub (pe_callB (clLen (K := K) rfl) (by rfl) T.z_len (by decide +kernel) (pa_cons (pv 0) pa_nil)) (pv 1))))))))))
        (pss_one (ps_ret pe_non))
        pss_nil)
      (pss_cons (ps_asg (pe_ix ix_kdict (pe_glob (by rfl) gd_WORDS (v := .ref (adr mg "WORDS")) rfl) (pv 4) (fun _ _ => rfl)) (pgT (n := 2) (K := K) rfl (by rfl) (pgs_cons (pg_name (i := 6) sc_way_on.nd rfl (.inl rfl)) (pgs_cons (pg_name (i := 7) sc_way_on.nd rfl (.inl rfl)) pgs_nil))))
      (pss_cons (ps_asg (pv 2) (pgT (n := 2) (K := K) rfl (by rfl) (pgs_cons (pg_name (i := 8) sc_way_on.nd rfl (.inl rfl)) (pgs_cons (pg_name (i := 9) sc_way_on.nd rfl (.inl rfl)) pgs_nil))))
      (pss_cons (ps_set (i := 10) sc_way_on.nd rfl (.inl rfl) (pe_op op_add (pe_op op_sub (pv 8) (pv 6)) (pv 7)))
      (pss_cons (ps_if (pt_cmpR (opNotIn (K := K) rfl) (pv 4) (pe_glob (by rfl) T.gt_CALLS (v := .ref (adr mg "CALLS")) rfl) (by rfl))
        (pss_one (ps_ret (pe_tup (pa_cons (pv 10) (pa_cons (pe_op op_add (pv 9) pe_int) (pa_cons (pe_op op_sub (pv 6) (pv 8)) (pa_cons (pv 10) pa_nil)))))))
        pss_nil)
      (pss_cons (ps_set (i := 11) sc_way_on.nd rfl (.inl rfl) (pe_h h_cost_of (hr.mono (by decide)) (pa_cons (pv 3) (pa_cons (pv 5) pa_nil))))
      (pss_cons (ps_if (PW.pt (pw_or (pt_cmpR op_isN (pv 11) pe_non (nomark _)) (pw_or1 (PW.pt (pw_and (pt_cmpR op_eq (pv 4) pe_str (nomark _)) (pw_and1 (pt_cmpR op_ne (pe_ix (ixT (K := K) rfl) (pv 11) pe_int (fun _ _ => rfl)) pe_int (nomark _))))))))
        (pss_one (ps_ret pe_non))
        pss_nil)
      (pss_cons (ps_asg (pv 11) (pgT (n := 4) (K := K) rfl (by rfl) (pgs_cons (pg_name (i := 12) sc_way_on.nd rfl (.inl rfl)) (pgs_cons (pg_name (i := 13) sc_way_on.nd rfl (.inl rfl)) (pgs_cons (pg_name (i := 14) sc_way_on.nd rfl (.inl rfl)) (pgs_cons (pg_name (i := 15) sc_way_on.nd rfl (.inl rfl)) pgs_nil))))))
      (pss_cons (ps_set (i := 16) sc_way_on.nd rfl (.inl rfl) (pe_ifExp (pt_cmpR op_eq (pv 4) pe_str (nomark _)) (pe_gv (by rfl) T.g_MOST_ROUNDS) pe_int))
      (pss_cons (ps_set (i := 17) sc_way_on.nd rfl (.inl rfl) (pe_op op_add (pv 10) (pe_callB (call_max' rfl) (by rfl) T.z_max (by decide +kernel) (pa_cons (pv 13) (pa_cons (pv 14) pa_nil)))))
      (pss_one (ps_ret (pe_tup (pa_cons (pe_op op_add (pv 10) (pv 13)) (pa_cons (pe_op op_add (pe_op op_add (pv 9) pe_int) (pe_op op_mulW (pv 16) (pv 15))) (pa_cons (pe_callB (call_max' rfl) (by rfl) T.z_max (by decide +kernel) (pa_cons (pe_op op_sub (pv 6) (pv 8)) (pa_cons (pe_op op_sub (pv 12) (pv 10)) pa_nil))) (pa_cons (pv 17) pa_nil)))))))))))))))))), ?_⟩
    walk_at "fl.w"
    refine ⟨r.1, rW, rfl, rfl, nW1, ?_⟩
    cases he : eff r.1 with
    | none =>
      have c0 : rW = none := cW none (by rw [hef, he]; rfl)
      subst c0
      have wn : wayP r ((c.length : Int) - i) p cs = none := by unfold wayP; rw [he]
      rw [wn] at q
      walk_at "fl.w"
      exact q _ _ (Same.refl _) .non
    | some u =>
      obtain ⟨t, rfl, ht⟩ : ∃ t, rW = some (.ref t) ∧ ∀ H : Hp, SqT K H t ([u.1, u.2].map V.int) := cW (some [u.1, u.2]) (by rw [hef, he]; rfl)
      have ht' : SqT K H t [V.int u.1, V.int u.2] := ht H
      have gJ := T.gs_JUMPS
      have gC := T.gs_CALLS
      walk_at "fl.w"
      rw [if_neg (show ¬ ((!(some (Value.ref t)).isSome) = true) by intro z; cases z)]
      walk_at "fl.w"
      refine g_inT (xs := jzL.map V.str) (gJ _) rfl (strs_flat _) ?_
      rw [strs_in]
      have wj : (r.1 ∈ jzL ∧ ¬ (0 ≤ r.2 ∧ r.2 < (c.length : Int) - i)) → wayP r ((c.length : Int) - i) p cs = none := fun z => by unfold wayP; rw [he]; simp only; rw [if_pos z]
      have wk : ¬ (r.1 ∈ jzL ∧ ¬ (0 ≤ r.2 ∧ r.2 < (c.length : Int) - i)) → wayP r ((c.length : Int) - i) p cs = if r.1 ∈ caL then match costOf cs r.2 with
        | none => none
        | some c => if r.1 = "repeat" ∧ c.2.1 ≠ 0 then none else
          some (p.1 - u.1 + u.2 + c.2.1, p.2 + 1 + (if r.1 = "repeat" then 16 else 1) * c.2.2.2, max (u.1 - p.1) (c.1 - (p.1 - u.1 + u.2)), p.1 - u.1 + u.2 + max c.2.1 c.2.2.1)
        else some (p.1 - u.1 + u.2, p.2 + 1, u.1 - p.1, p.1 - u.1 + u.2) := fun z => by unfold wayP; rw [he]; simp only; rw [if_neg z]
      walk_at "fl.w"
      refine g_ite (fun hj => ?_) (fun hj => ?_)
      · walk_at "fl.w"
        refine g_ite (fun h0 => ?_) (fun h0 => ?_)
        · walk_at "fl.w"
          refine g_iteN (fun h1 => ?_) (fun h1 => ?_)
          · rw [wj ⟨hj, fun z => h1 (by omega)⟩] at q
            walk_at "fl.w"
            exact q _ _ (Same.refl _) .non
          · replace wk := wk fun z => z.2 ⟨h0, by omega⟩
            walk_at "fl.w"
            refine g_kd (v := .ref t) ⟨esW, nW, .ref t, kd_WORDS.at_, kd_WORDS.lit, nW1, rfl⟩ ?_
            walk_at "fl.w"
            refine g_gtup ht' rfl ?_
            walk_at "fl.w"
            refine g_ninT (xs := caL.map V.str) (gC _) rfl (strs_flat _) ?_
            rw [strs_in]
            walk_at "fl.w"
            refine g_iteN (fun hca => ?_) (fun hca => ?_)
            · rw [if_neg hca] at wk
              rw [wk] at q
              walk_at "fl.w"
              rename_i tt htt
              exact q _ _ (Fl.Same.new htt) (.tup (hS.ni htt) upd_same (.cons (.int _) (.cons (.int _) (.cons (.int _) (.cons (.int _) .nil)))))
            rw [if_pos hca] at wk
            walk_at "fl.w"
            refine spD_app S [costsD cs, .int r.2] (ocD (costOf cs r.2)) hS (.cons h4 (.cons (.int _) .nil)) ⟨cs, r.2, rfl, hzc, rfl⟩ (fun vo H1 sm1 do1 => ?_)
            cases hco : costOf cs r.2 with
            | none =>
              rw [hco] at wk do1
              rw [wk] at q
              cases do1.nonE
              walk_at "fl.w"
              refine g_ite (fun _ => ?_) (fun z => absurd rfl z)
              walk_at "fl.w"
              exact q _ _ sm1 .non
            | some co =>
              rw [hco] at wk do1
              obtain ⟨oa, rfl, no, ro⟩ := coE do1
              have hbl : co.2.2.2.natAbs ≤ 1000000 := by
                refine hb co ?_
                unfold costOf at hco
                by_cases h : 0 ≤ r.2
                · rw [if_pos h] at hco; exact List.mem_of_getElem? hco
                · rw [if_neg h] at hco; exact nomatch hco
              walk_at "fl.w"
              refine g_ite (fun z => by cases z) (fun _ => ?_)
              simp only [L2.start, N_way_on, List.set_cons_succ, List.set_cons_zero, List.map_cons, List.map_nil, List.length_cons, List.length_nil, List.cons_append, List.nil_append, Nat.reduceAdd, Nat.reduceSub, List.replicate_succ, List.replicate_zero]
              walk_at "fl.w"
              refine g_ite (fun hrp => ?_) (fun hrp => ?_)
              · walk_at "fl.w"
                refine g_iteN (fun hch => ?_) (fun hch => ?_)
                · simp only [if_pos (show r.1 = "repeat" ∧ co.2.1 ≠ 0 from ⟨hrp, hch⟩)] at wk
                  rw [wk] at q
                  walk_at "fl.w"
                  exact q _ _ sm1 .non
                · simp only [if_neg (show ¬ (r.1 = "repeat" ∧ co.2.1 ≠ 0) from fun z => z.2 hch), if_pos hrp] at wk
                  rw [wk] at q
                  walk_at "fl.w"
                  refine g_ite (fun _ => ?_) (fun z => absurd hrp z)
                  walk_at "fl.w"
                  rename_i tt htt
                  simp only [mx_if] at q
                  exact q _ _ (sm1.trans (Fl.Same.new htt)) (show Dq S _ _ (.tuple [.int _, .int _, .int _, .int _]) from .tup ((hS.same sm1).ni htt) upd_same (.cons (.int _) (.cons (.int _) (.cons (.int _) (.cons (.int _) .nil)))))
              · simp only [if_neg (show ¬ (r.1 = "repeat" ∧ co.2.1 ≠ 0) from fun z => hrp z.1), if_neg hrp] at wk
                rw [wk] at q
                walk_at "fl.w"
                refine g_ite (fun z => absurd z hrp) (fun _ => ?_)
                walk_at "fl.w"
                rename_i tt htt
                simp only [mx_if] at q
                exact q _ _ (sm1.trans (Fl.Same.new htt)) (show Dq S _ _ (.tuple [.int _, .int _, .int _, .int _]) from .tup ((hS.same sm1).ni htt) upd_same (.cons (.int _) (.cons (.int _) (.cons (.int _) (.cons (.int _) .nil)))))
        · rw [wj ⟨hj, fun z => h0 z.1⟩] at q
          walk_at "fl.w"
          exact q _ _ (Same.refl _) .non
      · replace wk := wk fun z => hj z.1
        walk_at "fl.w"
        refine g_kd (v := .ref t) ⟨esW, nW, .ref t, kd_WORDS.at_, kd_WORDS.lit, nW1, rfl⟩ ?_
        walk_at "fl.w"
        refine g_gtup ht' rfl ?_
        walk_at "fl.w"
        refine g_ninT (xs := caL.map V.str) (gC _) rfl (strs_flat _) ?_
        rw [strs_in]
        walk_at "fl.w"
        refine g_iteN (fun hca => ?_) (fun hca => ?_)
        · rw [if_neg hca] at wk
          rw [wk] at q
          walk_at "fl.w"
          rename_i tt htt
          exact q _ _ (Fl.Same.new htt) (.tup (hS.ni htt) upd_same (.cons (.int _) (.cons (.int _) (.cons (.int _) (.cons (.int _) .nil)))))
        rw [if_pos hca] at wk
        walk_at "fl.w"
        refine spD_app S [costsD cs, .int r.2] (ocD (costOf cs r.2)) hS (.cons h4 (.cons (.int _) .nil)) ⟨cs, r.2, rfl, hzc, rfl⟩ (fun vo H1 sm1 do1 => ?_)
        cases hco : costOf cs r.2 with
        | none =>
          rw [hco] at wk do1
          rw [wk] at q
          cases do1.nonE
          walk_at "fl.w"
          refine g_ite (fun _ => ?_) (fun z => absurd rfl z)
          walk_at "fl.w"
          exact q _ _ sm1 .non
        | some co =>
          rw [hco] at wk do1
          obtain ⟨oa, rfl, no, ro⟩ := coE do1
          have hbl : co.2.2.2.natAbs ≤ 1000000 := by
            refine hb co ?_
            unfold costOf at hco
            by_cases h : 0 ≤ r.2
            · rw [if_pos h] at hco; exact List.mem_of_getElem? hco
            · rw [if_neg h] at hco; exact nomatch hco
          walk_at "fl.w"
          refine g_ite (fun z => by cases z) (fun _ => ?_)
          simp only [L2.start, N_way_on, List.set_cons_succ, List.set_cons_zero, List.map_cons, List.map_nil, List.length_cons, List.length_nil, List.cons_append, List.nil_append, Nat.reduceAdd, Nat.reduceSub, List.replicate_succ, List.replicate_zero]
          walk_at "fl.w"
          refine g_ite (fun hrp => ?_) (fun hrp => ?_)
          · walk_at "fl.w"
            refine g_iteN (fun hch => ?_) (fun hch => ?_)
            · simp only [if_pos (show r.1 = "repeat" ∧ co.2.1 ≠ 0 from ⟨hrp, hch⟩)] at wk
              rw [wk] at q
              walk_at "fl.w"
              exact q _ _ sm1 .non
            · simp only [if_neg (show ¬ (r.1 = "repeat" ∧ co.2.1 ≠ 0) from fun z => z.2 hch), if_pos hrp] at wk
              rw [wk] at q
              walk_at "fl.w"
              refine g_ite (fun _ => ?_) (fun z => absurd hrp z)
              walk_at "fl.w"
              rename_i tt htt
              simp only [mx_if] at q
              exact q _ _ (sm1.trans (Fl.Same.new htt)) (show Dq S _ _ (.tuple [.int _, .int _, .int _, .int _]) from .tup ((hS.same sm1).ni htt) upd_same (.cons (.int _) (.cons (.int _) (.cons (.int _) (.cons (.int _) .nil)))))
          · simp only [if_neg (show ¬ (r.1 = "repeat" ∧ co.2.1 ≠ 0) from fun z => hrp z.1), if_neg hrp] at wk
            rw [wk] at q
            walk_at "fl.w"
            refine g_ite (fun z => absurd z hrp) (fun _ => ?_)
            walk_at "fl.w"
            rename_i tt htt
            simp only [mx_if] at q
            exact q _ _ (sm1.trans (Fl.Same.new htt)) (show Dq S _ _ (.tuple [.int _, .int _, .int _, .int _]) from .tup ((hS.same sm1).ni htt) upd_same (.cons (.int _) (.cons (.int _) (.cons (.int _) (.cons (.int _) .nil)))))
end

section
variable {P : Program} {w : World} {K : PySem.W.Frag} {mg : Str → Option Value} {base : Heap}
local macro_rules | `(tactic| walk_at "fl.t") => `(tactic| (with_reducible refine g_chainW ?_))
local macro_rules | `(tactic| walk_at "fl.t") => `(tactic| (with_reducible refine g_ifE ?_))
local macro_rules | `(tactic| walk_at "fl.w") => `(tactic| repeat walk_at "fl.t")
def folP (it : Option Pr) (c : Co) : Bool := match it with
  | none => false
  | some p => decide (p.1 = c.1) && !decide (p.2 < c.2.1)
/-- a place of a table -/
def atT (t : List (Option Pr)) (i : Int) : Option Pr := (t[i.toNat]?).getD none
def fIf (ds : List PyData) (d : PyData) : Prop := ∃ (t : List (Option Pr)) (ps : List Int) (c : Co), ds = [tabD t, .list (ps.map PyData.int), coD c] ∧ (∀ x, x ∈ ps → 0 ≤ x ∧ x < t.length) ∧ t.length < 1000 ∧ ps.length < 1000 ∧ d = .bool (ps.all fun x => folP (atT t x) c)
theorem ints_of {S : List Addr} {H : Hp} : ∀ {xs : List V} {ps : List Int}, DqA S H xs (ps.map PyData.int) → xs = ps.map V.int
  | xs, [], h => h.nilE
  | xs, p :: ps, h => by
    obtain ⟨v, vs, rfl, hv, h2⟩ := h.consE
    cases hv.intE
    rw [ints_of h2]
    rfl
theorem all_snoc (f : Int → Bool) (ps : List Int) (i : Nat) (x : Int) (h : ps[i]? = some x) : (ps.take (i + 1)).all f = ((ps.take i).all f && f x) := by
  rw [List.take_succ, h, List.all_append]
  simp
theorem all_no (f : Int → Bool) (ps : List Int) (x : Int) (h : x ∈ ps) (e : f x = false) : ps.all f = false := by
  rw [List.all_eq_false]
  exact ⟨x, h, by simp [e]⟩
theorem ok_is_followed (T : Txt K mg) : Has P w K mg base 1 "is_followed" ps_is_followed (spD fIf) := by
  refine has_of T.d_is_followed sc_is_followed bd_is_followed (fun vs H Q E h => ?_) (fun f cdv A outer s H vs Q E hr h => ?_)
  · obtain ⟨S, ds, d, _, hd, ⟨t, ps, c, rfl, _⟩, _⟩ := h
    rw [hd.len]; rfl
  · obtain ⟨S, ds, d, hS, hd, ⟨t, ps, c, rfl, hp, ht, hz, rfl⟩, q⟩ := h
    obtain ⟨v, _, rfl, hv, hd⟩ := hd.consE
    obtain ⟨_, _, rfl, h2, hd⟩ := hd.consE
    obtain ⟨_, _, rfl, h3, hd⟩ := hd.consE
    cases hd.nilE
    obtain ⟨a, xs, rfl, na, ra, hX⟩ := hv.lstE
    obtain ⟨b, ys, rfl, nb, rb, hY⟩ := h2.lstE
    obtain ⟨e, rfl, ne, re⟩ := coE h3
    cases ints_of hY
    refine ⟨_, (pss_cons (ps_for PassesOwn.never rfl (piL (K := K) rfl (pv 1)) (pg_name (i := 3) sc_is_followed.nd rfl (.inl rfl))
        (pss_cons (ps_set (i := 4) sc_is_followed.nd rfl (.inl rfl) (pe_ix (ixL (K := K) rfl) (pv 0) (pv 3) (fun _ _ => rfl)))
      (pss_one (ps_if (PW.pt (pw_or (pt_cmpR op_isN (pv 4) pe_non (nomark _)) (pw_or (pt_cmpR op_ne (pe_ix (ixT (K := K) rfl) (pv 4) pe_int (fun _ _ => rfl)) (pe_ix (ixT (K := K) rfl) (pv 2) pe_int (fun _ _ => rfl)) (nomark _)) (pw_or1 (pt_cmpR op_lt (pe_ix (ixT (K := K) rfl) (pv 4) pe_int (fun _ _ => rfl)) (pe_ix (ixT (K := K) rfl) (pv 2) pe_int (fun _ _ => rfl)) (nomark _))))))
        (pss_one (ps_ret pe_bl))
        pss_nil))))
      (pss_one (ps_ret pe_bl))), ?_⟩
    walk_at "fl.w"
    refine forK_l (xs := ps.map V.int) (fun i σ' H' => (∃ u v, σ' = [some (.ref a), some (.ref b), some (.ref e), u, v]) ∧ H' = H ∧ (ps.take i).all (fun x => folP (atT t x) c) = true) ⟨⟨_, _, rfl⟩, rfl, rfl⟩ (fun i σ' H' _ ⟨_, e2, _⟩ => by subst e2; exact SqL.of rb) ?_ ?_
    · intro i x σ' H' hx ⟨⟨u, v, e1⟩, e2, hall⟩
      subst e1 e2
      rw [List.getElem?_map] at hx
      cases hi : ps[i]? with
      | none => rw [hi] at hx; cases hx
      | some y =>
        rw [hi] at hx
        cases hx
        have my := List.mem_of_getElem? hi
        obtain ⟨y0, y1⟩ := hp y my
        have hty : t[y.toNat]? = some t[y.toNat] := List.getElem?_eq_getElem (by omega)
        have hat : atT t y = t[y.toNat] := by unfold atT; rw [hty]; rfl
        obtain ⟨z, hz, dz⟩ := hX.getD (i := y.toNat) (d := opD t[y.toNat]) (by rw [List.getElem?_map, hty]; rfl)
        have az : atI xs y = some z := by
          have := atI_nat hz
          rwa [show ((y.toNat : Nat) : Int) = y by omega] at this
        generalize t[y.toNat] = it at hat dz
        have hsn := all_snoc (fun x => folP (atT t x) c) ps i y hi
        cases it with
        | none =>
          cases dz.nonE
          walk_at "fl.w"
          refine g_ite (fun _ => ?_) (fun z => absurd rfl z)
          walk_at "fl.w"
          refine q _ _ (Same.refl _) ?_
          rw [all_no _ ps y my (by rw [hat]; rfl)]
          exact .bl _
        | some p =>
          obtain ⟨o, rfl, no, ro⟩ := prE dz
          walk_at "fl.w"
          refine g_ite (fun z => by cases z) (fun _ => ?_)
          walk_at "fl.w"
          refine g_iteN (fun h1 => ?_) (fun h1 => ?_)
          · walk_at "fl.w"
            refine q _ _ (Same.refl _) ?_
            rw [all_no _ ps y my (by rw [hat]; simp [folP, h1])]
            exact .bl _
          walk_at "fl.w"
          refine g_ite (fun h2 => ?_) (fun h2 => ?_)
          · walk_at "fl.w"
            refine q _ _ (Same.refl _) ?_
            rw [all_no _ ps y my (by rw [hat]; simp [folP, h2])]
            exact .bl _
          · walk_at "fl.w"
            refine ⟨⟨_, _, rfl⟩, rfl, ?_⟩
            rw [hsn, hall, hat]
            simp [folP, h1, h2]
    · intro σ' H' ⟨⟨u, v, e1⟩, e2, hall⟩
      subst e1 e2
      walk_at "fl.w"
      refine q _ _ (Same.refl _) ?_
      rw [List.length_map, List.take_of_length_le (Nat.le_refl _)] at hall
      rw [hall]
      exact .bl _
end

section
variable {P : Program} {w : World} {K : PySem.W.Frag} {mg : Str → Option Value} {base : Heap}
local macro_rules | `(tactic| walk_at "fl.t") => `(tactic| (with_reducible refine g_chainW ?_))
local macro_rules | `(tactic| walk_at "fl.t") => `(tactic| (with_reducible refine g_ifE ?_))
local macro_rules | `(tactic| walk_at "fl.w") => `(tactic| repeat walk_at "fl.t")
def goodI : Option Pr → Bool
  | none => true
  | some p => decide (p.2 ≥ 0)
/-- a table for n instructions: it begins at 0 and the end is reached -/
def begP (n : Nat) (t : List (Option Pr)) : Bool := decide (t.length = n + 1) && ((atT t 0).isSome && ((atT t ((t.length : Int) - 1)).isSome && (decide (((atT t 0).getD (0, 0)).1 = 0) && t.all goodI)))
theorem at_end {xs : List V} {v : V} (h : xs[xs.length - 1]? = some v) : atI xs (-1) = some v := by
  have hn : xs.length - 1 < xs.length := (List.getElem?_eq_some_iff.mp h).1
  unfold atI ixN
  rw [if_neg (by decide), if_pos (by omega)]
  show xs[_]? = _
  rw [← h]
  congr 1
  omega
def fBe (ds : List PyData) (d : PyData) : Prop := ∃ (c : List In) (t : List (Option Pr)), ds = [codeD c, tabD t] ∧ c.length < 900 ∧ t.length < 900 ∧ d = .bool (begP c.length t)
theorem ok_begins_and_ends (T : Txt K mg) : Has P w K mg base 1 "begins_and_ends" ps_begins_and_ends (spD fBe) := by
  refine has_of T.d_begins_and_ends sc_begins_and_ends bd_begins_and_ends (fun vs H Q E h => ?_) (fun f cdv A outer s H vs Q E hr h => ?_)
  · obtain ⟨S, ds, d, _, hd, ⟨c, t, rfl, _⟩, _⟩ := h
    rw [hd.len]; rfl
  · obtain ⟨S, ds, d, hS, hd, ⟨c, t, rfl, hz, ht, rfl⟩, q⟩ := h
    obtain ⟨v, _, rfl, hv, hd⟩ := hd.consE
    obtain ⟨_, _, rfl, h2, hd⟩ := hd.consE
    cases hd.nilE
    obtain ⟨a, xs, rfl, na, ra, hX⟩ := hv.lstE
    obtain ⟨b, ys, rfl, nb, rb, hY⟩ := h2.lstE
    have lx := hX.len
    have ly := hY.len
    rw [List.length_map] at lx ly
    refine ⟨_, (pss_cons (ps_if (PW.pt (pw_or (pt_cmpR op_ne (pe_callB (clLen (K := K) rfl) (by rfl) T.z_len (by decide +kernel) (pa_cons (pv 1) pa_nil)) (pe_op op_add (pe_callB (clLen (K := K) rfl) (by rfl) T.z_len (by decide +kernel) (pa_cons (pv 0) pa_nil)) pe_int) (nomark _)) (pw_or (pt_cmpR op_isN (pe_ix (ixL (K := K) rfl) (pv 1) pe_int (fun _ _ => rfl)) pe_non (nomark _)) (pw_or1 (pt_cmpR op_isN (pe_ix (ixL (K := K) rfl) (pv 1) (pe_un un_neg pe_int) (fun _ _ => rfl)) pe_non (nomark _))))))
        (pss_one (ps_ret pe_bl))
        pss_nil)
      (pss_one (ps_ret (pe_and (pe_cmpR op_eq (pe_ix (ixT (K := K) rfl) (pe_ix (ixL (K := K) rfl) (pv 1) pe_int (fun _ _ => rfl)) pe_int (fun _ _ => rfl)) pe_int (nomark _)) (pe_one (pe_callB (clAll (K := K) rfl rfl) (by rfl) T.z_all (by decide +kernel) (pa_cons (pe_lc (own := [("item", 2)]) rfl sc_begins_and_ends.nd (piL (K := K) rfl (pv 1)) (blkOk_by (by kernel_rfl)) (fun _ _ _ _ _ => (pg_name (i := 2) sc_begins_and_ends.nd rfl (.inl rfl))) (fun _ _ _ _ _ => pts_nil) (fun _ _ _ _ _ => (pe_or (pe_cmpR op_isN (pv 2) pe_non (nomark _)) (pe_one (pe_cmpR op_ge (pe_ix (ixT (K := K) rfl) (pv 2) pe_int (fun _ _ => rfl)) pe_int (nomark _)))))) pa_nil))))))), ?_⟩
    walk_at "fl.w"
    refine g_iteN (fun h1 => ?_) (fun h1 => ?_)
    · walk_at "fl.w"
      refine q _ _ (Same.refl _) ?_
      rw [show begP c.length t = false by unfold begP; rw [decide_eq_false (by omega)]; rfl]
      exact .bl _
    have hl : t.length = c.length + 1 := by omega
    have e0 : t[0]? = some t[0] := List.getElem?_eq_getElem (by omega)
    have eN : t[t.length - 1]? = some t[t.length - 1] := List.getElem?_eq_getElem (by omega)
    obtain ⟨z0, hz0, dz0⟩ := hY.getD (i := 0) (d := opD t[0]) (by rw [List.getElem?_map, e0]; rfl)
    obtain ⟨zN, hzN, dzN⟩ := hY.getD (i := t.length - 1) (d := opD t[t.length - 1]) (by rw [List.getElem?_map, eN]; rfl)
    have a0 : atI ys 0 = some z0 := atI_nat hz0
    have aN : atI ys (-1) = some zN := at_end (by rw [ly]; exact hzN)
    have t0 : atT t 0 = t[0] := by unfold atT; rw [show (0 : Int).toNat = 0 from rfl, e0]; rfl
    have tN : atT t ((t.length : Int) - 1) = t[t.length - 1] := by unfold atT; rw [show ((t.length : Int) - 1).toNat = t.length - 1 by omega, eN]; rfl
    have hb : begP c.length t = ((t[0]).isSome && ((t[t.length - 1]).isSome && (decide (((t[0]).getD (0, 0)).1 = 0) && t.all goodI))) := by unfold begP; rw [decide_eq_true hl, t0, tN]; rfl
    generalize t[0] = i0 at hb dz0
    generalize t[t.length - 1] = iN at hb dzN
    walk_at "fl.w"
    cases i0 with
    | none =>
      cases dz0.nonE
      refine g_ite (fun _ => ?_) (fun z => absurd rfl z)
      walk_at "fl.w"
      refine q _ _ (Same.refl _) ?_
      rw [hb]
      exact .bl _
    | some p0 =>
      obtain ⟨o, rfl, no, ro⟩ := prE dz0
      refine g_ite (fun z => by cases z) (fun _ => ?_)
      walk_at "fl.w"
      cases iN with
      | none =>
        cases dzN.nonE
        refine g_ite (fun _ => ?_) (fun z => absurd rfl z)
        walk_at "fl.w"
        refine q _ _ (Same.refl _) ?_
        rw [hb]
        exact .bl _
      | some pN =>
        obtain ⟨o2, rfl, no2, ro2⟩ := prE dzN
        refine g_ite (fun z => by cases z) (fun _ => ?_)
        walk_at "fl.w"
        have hb' : begP c.length t = (decide (p0.1 = 0) && t.all goodI) := hb.trans rfl
        refine g_ite (fun h2 => ?_) (fun h2 => ?_)
        · walk_at "fl.w"
          refine lcL (S := S) (fun i => (t.map fun it => PyData.bool (goodI it))[i]?) hS (.lst nb rb hY) (by simp; omega) ?_ ?_
          · intro D i x e H2 hD he sm al hxe R N hR hN
            rw [List.getElem?_map] at he
            cases hc : t[i]? with
            | none => rw [hc] at he; cases he
            | some it =>
              rw [hc] at he
              cases he
              cases it with
              | none =>
                cases hxe.nonE
                walk_at "fl.w"
                refine ⟨rfl, ?_⟩
                walk_at "fl.w"
                refine g_ite (fun _ => ?_) (fun z => absurd rfl z)
                exact hR _ _ _ (by rw [List.getElem?_map, hc]; rfl) (Same.refl _) (.bl _)
              | some p =>
                obtain ⟨o3, rfl, no3, ro3⟩ := prE hxe
                walk_at "fl.w"
                refine ⟨rfl, ?_⟩
                walk_at "fl.w"
                refine g_ite (fun z => by cases z) (fun _ => ?_)
                walk_at "fl.w"
                exact hR _ _ _ (by rw [List.getElem?_map, hc]; rfl) (Same.refl _) (.bl _)
          · intro D H2 sm hD hq
            have e1 : (t.map fun it => PyData.bool (goodI it)) = (t.map goodI).map PyData.bool := by rw [List.map_map]; rfl
            rw [fm_all (by simp), e1] at hq
            obtain ⟨D', zs, e, nD, rz, hZ⟩ := hq.lstE
            cases e
            rw [bools_of hZ] at rz
            refine g_allL (SqL.of rz) ?_
            refine q _ _ sm ?_
            rw [hb', decide_eq_true h2, show (t.map goodI).all id = t.all goodI by rw [List.all_map]; rfl]
            exact .bl _
        · walk_at "fl.w"
          refine q _ _ (Same.refl _) ?_
          rw [hb', decide_eq_false h2]
          exact .bl _
end

section
variable {P : Program} {w : World} {K : PySem.W.Frag} {mg : Str → Option Value} {base : Heap}
theorem g_as2 {te : TE} {g1 g2 : TG} {D : Ends} {σ : L2.St} {H : Hp} (h : te σ H fun x H1 => g1 x σ H1 fun σ1 H2 => g2 x σ1 H2 D.nx) : tAsg2 te g1 g2 D σ H := h
local macro_rules | `(tactic| walk_at "fl.t") => `(tactic| (with_reducible refine g_chainW ?_))
local macro_rules | `(tactic| walk_at "fl.t") => `(tactic| (with_reducible refine g_ifE ?_))
local macro_rules | `(tactic| walk_at "fl.t") => `(tactic| (with_reducible refine g_as2 ?_))
local macro_rules | `(tactic| walk_at "fl.w") => `(tactic| repeat walk_at "fl.t")
/-- a code that a machine can be asked about -/
structure CodeOk (c : List In) : Prop where
  z : c.length < 800
  w : ∀ r, r ∈ c → r.1 ∈ allW ∧ B32 r.2
def CostsOk (cs : List Co) : Prop := cs.length < 100 ∧ ∀ co, co ∈ cs → co.2.2.2.natAbs ≤ 1000000
def judF (c : List In) (cs : List Co) (t : List (Option Pr)) (i : Nat) (acc : Int × Int) : Option (Int × Int) :=
  match c[i]? with
  | none => none
  | some r => match atT t i with
    | none => some acc
    | some p => match wayP r ((c.length : Int) - i) p cs with
      | none => none
      | some w => if ((behP r i).all fun x => folP (atT t x) w) = true then some (max acc.1 w.2.2.1, max acc.2 w.2.2.2) else none
def judL (c : List In) (cs : List Co) (t : List (Option Pr)) : Nat → Option (Int × Int)
  | 0 => some (0, 0)
  | i + 1 => (judL c cs t i).bind (judF c cs t i)
/-- what a judged table costs -/
def judP (c : List In) (cs : List Co) (t : List (Option Pr)) : Option Co :=
  if begP c.length t = true then match judL c cs t c.length with
    | none => none
    | some a => if a.1 ≤ 32 ∧ a.2 ≤ 32 ∧ ((atT t ((t.length : Int) - 1)).getD (0, 0)).2 ≤ 4096 then some (a.1, ((atT t ((t.length : Int) - 1)).getD (0, 0)).1, a.2, ((atT t ((t.length : Int) - 1)).getD (0, 0)).2) else none
  else none
theorem judL_no {c : List In} {cs : List Co} {t : List (Option Pr)} {i : Nat} (h : judL c cs t i = none) : ∀ k, judL c cs t (i + k) = none
  | 0 => h
  | k + 1 => by
    show (judL c cs t (i + k)).bind _ = none
    rw [judL_no h k]
    rfl
theorem beh_in {r : In} {i n : Nat} {p : Pr} {cs : List Co} {w : Co} (hi : i < n) (h : wayP r ((n : Int) - i) p cs = some w) : ∀ x, x ∈ behP r i → (i : Int) + 1 ≤ x ∧ x ≤ n := by
  intro x hx
  unfold behP at hx
  rcases List.mem_append.mp hx with m | m
  · by_cases e : r.1 = "jump"
    · rw [if_pos e] at m; cases m
    · rw [if_neg e] at m
      rw [List.mem_singleton.mp m]
      omega
  · by_cases e : r.1 ∈ jzL
    · rw [if_pos e] at m
      rw [List.mem_singleton.mp m]
      unfold wayP at h
      cases he : eff r.1 with
      | none => rw [he] at h; cases h
      | some u =>
        rw [he] at h
        simp only at h
        by_cases b : 0 ≤ r.2 ∧ r.2 < (n : Int) - i
        · omega
        · rw [if_pos (show r.1 ∈ jzL ∧ ¬ (0 ≤ r.2 ∧ r.2 < (n : Int) - i) from ⟨e, b⟩)] at h
          cases h
    · rw [if_neg e] at m; cases m
theorem beh_len (r : In) (i : Int) : (behP r i).length ≤ 2 := by
  have h1 : (if r.1 = "jump" then ([] : List Int) else [i + 1]).length ≤ 1 := by split <;> simp
  have h2 : (if r.1 ∈ jzL then [i + 1 + r.2] else ([] : List Int)).length ≤ 1 := by split <;> simp
  unfold behP
  rw [List.length_append]
  omega
def fJt (ds : List PyData) (d : PyData) : Prop := ∃ (c : List In) (cs : List Co) (t : List (Option Pr)), ds = [codeD c, costsD cs, tabD t] ∧ CodeOk c ∧ CostsOk cs ∧ t.length < 900 ∧ d = ocD (judP c cs t)
theorem ok_judge_table (T : Txt K mg) (I : WoK K w mg) : Has P w K mg base 3 "judge_table" ps_judge_table (spD fJt) := by
  have h_begins_and_ends := ok_begins_and_ends (P := P) (w := w) (base := base) T
  have h_kept_code := ok_kept_code (P := P) (w := w) (base := base) T
  have h_way_on := ok_way_on (P := P) (w := w) (base := base) T I
  have h_is_followed := ok_is_followed (P := P) (w := w) (base := base) T
  have h_places_behind := ok_places_behind (P := P) (w := w) (base := base) T
  refine has_of T.d_judge_table sc_judge_table bd_judge_table (fun vs H Q E h => ?_) (fun f cdv A outer s H vs Q E hr h => ?_)
  · obtain ⟨S, ds, d, _, hd, ⟨c, cs, t, rfl, _⟩, _⟩ := h
    rw [hd.len]; rfl
  · obtain ⟨S, ds, d, hS, hd, ⟨c, cs, t, rfl, hc, hcs, ht, rfl⟩, q⟩ := h
    obtain ⟨vc, _, rfl, h1, hd⟩ := hd.consE
    obtain ⟨vk, _, rfl, h2, hd⟩ := hd.consE
    obtain ⟨vt, _, rfl, h3, hd⟩ := hd.consE
    cases hd.nilE
    have hz := hc.z
    refine ⟨_, (pss_cons (ps_if (pt_not (pt_val (pe_h h_begins_and_ends (hr.mono (by decide)) (pa_cons (pv 0) (pa_cons (pv 2) pa_nil)))))
        (pss_one (ps_ret pe_non))
        pss_nil)
      (pss_cons (ps_set (i := 3) sc_judge_table.nd rfl (.inl rfl) (pe_h h_kept_code (hr.mono (by decide)) (pa_cons (pv 0) pa_nil)))
      (pss_cons (ps_asg2 pe_int (pg_name (i := 4) sc_judge_table.nd rfl (.inl rfl)) (pg_name (i := 5) sc_judge_table.nd rfl (.inl rfl)))
      (pss_cons (ps_for PassesOwn.never rfl (pi_range1 (by rfl) T.z_range (pa_cons (pe_callB (clLen (K := K) rfl) (by rfl) T.z_len (by decide +kernel) (pa_cons (pv 3) pa_nil)) pa_nil)) (pg_name (i := 6) sc_judge_table.nd rfl (.inl rfl))
        (pss_one (ps_if (pt_cmpR op_notN (pe_ix (ixL (K := K) rfl) (pv 2) (pv 6) (fun _ _ => rfl)) pe_non (nomark _))
        (pss_cons (ps_set (i := 7) sc_judge_table.nd rfl (.inl rfl) (pe_h h_way_on (hr.mono (by decide)) (pa_cons (pv 3) (pa_cons (pv 6) (pa_cons (pe_ix (ixL (K := K) rfl) (pv 2) (pv 6) (fun _ _ => rfl)) (pa_cons (pv 1) pa_nil))))))
      (pss_cons (ps_if (PW.pt (pw_or (pt_cmpR op_isN (pv 7) pe_non (nomark _)) (pw_or1 (pt_not (pt_val (pe_h h_is_followed (hr.mono (by decide)) (pa_cons (pv 2) (pa_cons (pe_h h_places_behind (hr.mono (by decide)) (pa_cons (pv 3) (pa_cons (pv 6) pa_nil))) (pa_cons (pv 7) pa_nil)))))))))
        (pss_one (ps_ret pe_non))
        pss_nil)
      (pss_cons (ps_set (i := 4) sc_judge_table.nd rfl (.inl rfl) (pe_callB (call_max' rfl) (by rfl) T.z_max (by decide +kernel) (pa_cons (pv 4) (pa_cons (pe_ix (ixT (K := K) rfl) (pv 7) pe_int (fun _ _ => rfl)) pa_nil))))
      (pss_one (ps_set (i := 5) sc_judge_table.nd rfl (.inl rfl) (pe_callB (call_max' rfl) (by rfl) T.z_max (by decide +kernel) (pa_cons (pv 5) (pa_cons (pe_ix (ixT (K := K) rfl) (pv 7) pe_int (fun _ _ => rfl)) pa_nil))))))))
        pss_nil)))
      (pss_cons (ps_set (i := 8) sc_judge_table.nd rfl (.inl rfl) (pe_tup (pa_cons (pv 4) (pa_cons (pe_ix (ixT (K := K) rfl) (pe_ix (ixL (K := K) rfl) (pv 2) (pe_un un_neg pe_int) (fun _ _ => rfl)) pe_int (fun _ _ => rfl)) (pa_cons (pv 5) (pa_cons (pe_ix (ixT (K := K) rfl) (pe_ix (ixL (K := K) rfl) (pv 2) (pe_un un_neg pe_int) (fun _ _ => rfl)) pe_int (fun _ _ => rfl)) pa_nil))))))
      (pss_one (ps_ret (pe_ifExp (PW.pt (pw_and (pt_cmpR op_le (pv 4) (pe_gv (by rfl) T.g_MOST_VALUES) (nomark _)) (pw_and (pt_cmpR op_le (pv 5) (pe_gv (by rfl) T.g_MOST_VALUES) (nomark _)) (pw_and1 (pt_cmpR op_le (pe_ix (ixT (K := K) rfl) (pv 8) pe_int (fun _ _ => rfl)) (pe_gv (by rfl) T.g_MOST_STEPS) (nomark _)))))) (pv 8) pe_non)))))))), ?_⟩
    walk_at "fl.w"
    refine spD_app S [codeD c, tabD t] (.bool (begP c.length t)) hS (.cons h1 (.cons h3 .nil)) ⟨c, t, rfl, by omega, ht, rfl⟩ (fun vb H1 sm1 db => ?_)
    cases db.blE
    by_cases hb : begP c.length t = true
    case neg =>
      rw [show begP c.length t = false by simpa using hb]
      walk_at "fl.w"
      refine q _ _ sm1 ?_
      rw [show judP c cs t = none by unfold judP; rw [if_neg hb]]
      exact .non
    rw [hb]
    have hlt : t.length = c.length + 1 := by
      unfold begP at hb
      simp only [Bool.and_eq_true, decide_eq_true_eq] at hb
      exact hb.1
    walk_at "fl.w"
    refine spD_app S [codeD c] (codeD c) (hS.same sm1) (.cons (h1.same sm1) .nil) ⟨c, rfl, by omega, fun r m => (hc.w r m).2, rfl⟩ (fun vs H2 sm2 ds => ?_)
    have sm12 := sm1.trans sm2
    obtain ⟨a, xs, rfl, na, ra, hX⟩ := ds.lstE
    obtain ⟨b, ys, rfl, nb, rb, hY⟩ := (h3.same sm12).lstE
    have lx := hX.len
    have ly := hY.len
    rw [List.length_map] at lx ly
    walk_at "fl.w"
    have hk2 := h2.same sm12
    refine forK_r (fun i σ' H' => (∃ n k u6 u7 u8, σ' = [some vc, some vk, some (.ref b), some (.ref a), some (.int n), some (.int k), u6, u7, u8] ∧ judL c cs t i = some (n, k)) ∧ Same H2 H') ⟨⟨0, 0, _, _, _, rfl, rfl⟩, Same.refl _⟩ ?_ ?_
    · intro i σ' H' hi ⟨⟨n, k, u6, u7, u8, e, hj⟩, sm⟩
      subst e
      have hi2 : i < c.length := by omega
      have hci : c[i]? = some c[i] := List.getElem?_eq_getElem hi2
      have hti : t[i]? = some t[i] := List.getElem?_eq_getElem (by omega)
      have hat : atT t (i : Int) = t[i] := by unfold atT; rw [show ((i : Nat) : Int).toNat = i from rfl, hti]; rfl
      obtain ⟨z, hz1, dz⟩ := (hY.same sm).getD (i := i) (d := opD t[i]) (by rw [List.getElem?_map, hti]; rfl)
      have az : atI ys (i : Int) = some z := atI_nat hz1
      have rb' := sm _ _ rb
      have ra' := sm _ _ ra
      have alH := (hS.same sm12).same sm
      have dC : Dq S H' (.ref a) (codeD c) := (Dq.lst na ra hX).same sm
      have dT : Dq S H' (.ref b) (tabD t) := (Dq.lst nb rb hY).same sm
      have dK := hk2.same sm
      have hmem := List.mem_of_getElem? hci
      generalize hr : c[i] = r at hci hmem
      have hF : judL c cs t (i + 1) = judF c cs t i (n, k) := by
        show (judL c cs t i).bind _ = _
        rw [hj]
        rfl
      have hno : judL c cs t (i + 1) = none → judP c cs t = none := fun h => by
        have z := judL_no h (c.length - (i + 1))
        rw [show i + 1 + (c.length - (i + 1)) = c.length by omega] at z
        unfold judP
        rw [if_pos hb, z]
      rw [show (0 : Int) + (i : Int) = (i : Int) by omega]
      generalize t[i] = it at hat dz
      cases it with
      | none =>
        cases dz.nonE
        walk_at "fl.w"
        refine g_iteN (fun z => absurd rfl z) (fun _ => ?_)
        walk_at "fl.w"
        refine ⟨⟨n, k, _, _, _, rfl, ?_⟩, sm⟩
        rw [hF]
        unfold judF
        simp only [hci, hat]
      | some p =>
        obtain ⟨o, rfl, no, ro⟩ := prE dz
        walk_at "fl.w"
        refine g_iteN (fun _ => ?_) (fun z => by cases z)
        walk_at "fl.w"
        refine spD_app S [codeD c, .int i, Fl.prD p, costsD cs] (ocD (wayP r ((c.length : Int) - i) p cs)) alH (.cons dC (.cons (.int _) (.cons dz (.cons dK .nil)))) ⟨c, i, r, p, cs, rfl, by omega, by have := hcs.1; omega, hci, (hc.w r hmem).1, hcs.2, rfl⟩ (fun vw H3 sm3 dw => ?_)
        cases hw : wayP r ((c.length : Int) - i) p cs with
        | none =>
          rw [hw] at dw
          cases dw.nonE
          walk_at "fl.w"
          refine g_ite (fun _ => ?_) (fun z => absurd rfl z)
          walk_at "fl.w"
          refine q _ _ ((sm12.trans sm).trans sm3) ?_
          rw [hno (by rw [hF]; unfold judF; simp only [hci, hat, hw])]
          exact .non
        | some wy =>
          rw [hw] at dw
          have dw0 := dw
          obtain ⟨wa, rfl, nw, rw'⟩ := coE dw
          walk_at "fl.w"
          refine g_ite (fun z => by cases z) (fun _ => ?_)
          walk_at "fl.w"
          have al3 := alH.same sm3
          refine spD_app S [codeD c, .int i] (.list ((behP r i).map PyData.int)) al3 (.cons (dC.same sm3) (.cons (.int _) .nil)) ⟨c, i, r, rfl, by omega, hci, rfl⟩ (fun vp H4 sm4 dp => ?_)
          walk_at "fl.w"
          refine spD_app S [tabD t, .list ((behP r i).map PyData.int), coD wy] (.bool ((behP r i).all fun x => folP (atT t x) wy)) (al3.same sm4) (.cons ((dT.same sm3).same sm4) (.cons dp (.cons ((show Dq S H3 (.ref wa) (coD wy) from dw0).same sm4) .nil))) ⟨t, behP r i, wy, rfl, fun x m => ?_, by omega, by have := beh_len r i; omega, rfl⟩ (fun vb H5 sm5 db => ?_)
          · have := beh_in hi2 hw x m
            omega
          cases db.blE
          have rw5 := (sm4.trans sm5) _ _ rw'
          by_cases hfo : ((behP r i).all fun x => folP (atT t x) wy) = true
          · rw [hfo]
            walk_at "fl.w"
            refine ⟨⟨max n wy.2.2.1, max k wy.2.2.2, _, _, _, by rw [mx_if, mx_if]; rfl, ?_⟩, ((sm.trans sm3).trans sm4).trans sm5⟩
            rw [hF]
            unfold judF
            simp only [hci, hat, hw]
            rw [if_pos hfo]
          · rw [show ((behP r i).all fun x => folP (atT t x) wy) = false by simpa using hfo]
            walk_at "fl.w"
            refine q _ _ ((((sm12.trans sm).trans sm3).trans sm4).trans sm5) ?_
            rw [hno (by rw [hF]; unfold judF; simp only [hci, hat, hw]; rw [if_neg hfo])]
            exact .non
    · intro σ' H' ⟨⟨n, k, u6, u7, u8, e, hj⟩, sm⟩
      subst e
      rw [lx, show ((c.length : Nat) : Int).toNat = c.length from rfl] at hj
      have rb' := sm _ _ rb
      have eN : t[t.length - 1]? = some t[t.length - 1] := List.getElem?_eq_getElem (by omega)
      obtain ⟨zN, hzN, dzN⟩ := (hY.same sm).getD (i := t.length - 1) (d := opD t[t.length - 1]) (by rw [List.getElem?_map, eN]; rfl)
      have aN : atI ys (-1) = some zN := at_end (by rw [ly]; exact hzN)
      have tN : atT t ((t.length : Int) - 1) = t[t.length - 1] := by unfold atT; rw [show ((t.length : Int) - 1).toNat = t.length - 1 by omega, eN]; rfl
      generalize t[t.length - 1] = iN at dzN tN
      cases iN with
      | none =>
        exfalso
        unfold begP at hb
        rw [tN] at hb
        simp at hb
      | some pN =>
        obtain ⟨oN, rfl, noN, roN⟩ := prE dzN
        have hJ : judP c cs t = if n ≤ 32 ∧ k ≤ 32 ∧ pN.2 ≤ 4096 then some (n, pN.1, k, pN.2) else none := by
          unfold judP
          rw [if_pos hb, hj]
          simp only [tN, Option.getD_some]
        have alH := (hS.same sm12).same sm
        walk_at "fl.w"
        rename_i pt hpt
        have smE := (sm12.trans sm).trans (Fl.Same.new (o := .tup [.int n, .int pN.1, .int k, .int pN.2]) hpt)
        refine g_ite (fun b1 => ?_) (fun b1 => ?_)
        · walk_at "fl.w"
          refine g_ite (fun b2 => ?_) (fun b2 => ?_)
          · walk_at "fl.w"
            refine g_ite (fun b3 => ?_) (fun b3 => ?_)
            · walk_at "fl.w"
              refine q _ _ smE ?_
              rw [hJ, if_pos ⟨b1, b2, b3⟩]
              exact .tup (alH.ni hpt) upd_same (.cons (.int _) (.cons (.int _) (.cons (.int _) (.cons (.int _) .nil))))
            · walk_at "fl.w"
              refine q _ _ smE ?_
              rw [hJ, if_neg fun z => b3 z.2.2]
              exact .non
          · walk_at "fl.w"
            refine q _ _ smE ?_
            rw [hJ, if_neg fun z => b2 z.2.1]
            exact .non
        · walk_at "fl.w"
          refine q _ _ smE ?_
          rw [hJ, if_neg fun z => b1 z.1]
          exact .non
end

section
variable {P : Program} {w : World} {K : PySem.W.Frag} {mg : Str → Option Value} {base : Heap}
theorem log_small {i : Int} (h : i.natAbs < 10000) : i.natAbs.log2 < 1920 := by
  by_cases z : i.natAbs = 0
  · rw [z]; decide
  · have := (Nat.log2_lt (k := 14) z).mpr (by omega)
    omega
theorem int_len {i : Int} (h : i.natAbs < 10000) : (Str.ofString (toString i)).cps.size ≤ 1921 := PyProof.Rows.int_text_len_1921 (log_small h)
theorem mk_NT (T : Txt K mg) : MkX2 P w K mg base 1 "NoTable" "function" "place" ps_NoTable :=
  mkX2_of T.mk_NoTable rfl sc_NoTable (fun kV doc pm an cdv ct us h => match us, h with | [_, _, _], _ => rfl) (fun fa cdv A outer s H a i j Q E hr hi hj h q => by
    refine ⟨_, pss_cons (ps_expr (pe_binit (by rfl) T.x_FleuronError T.b_FleuronError (pa_cons (pv 0) (pa_cons (pe_joined (.cons pe_str (.cons (pe_fmt (pv 1)) (.cons pe_str (.cons (pe_fmt (pv 2)) .nil))))) pa_nil)))) (pss_cons (ps_ost (pv 0) (pv 1)) (pss_one (ps_ost (pv 0) (pv 2)))), ?_⟩
    have hz : (6000 : Nat) ≤ sizeLine := by decide
    have li := int_len hi
    have lj := int_len hj
    have h0 : (Str.empty.cps).size = 0 := rfl
    have h1 : (Str.ofString "there is no table: function ").cps.size ≤ 40 := by decide
    have h2 : (Str.ofString ", place ").cps.size ≤ 40 := by decide
    refine ⟨.ref a, rfl, ⟨_, rfl, ?_, .int i, rfl, .inr ⟨i, rfl, log_small hi, ⟨_, rfl, ?_, ⟨_, rfl, ?_, .int j, rfl, .inr ⟨j, rfl, log_small hj, ⟨_, rfl, ?_, ?_⟩⟩⟩⟩⟩⟩⟩
    · show (Str.empty.cps ++ (Str.ofString "there is no table: function ").cps).size ≤ sizeLine
      rw [Array.size_append]
      omega
    · show (Str.empty.cps ++ (Str.ofString "there is no table: function ").cps ++ (Str.ofString (toString i)).cps).size ≤ sizeLine
      rw [Array.size_append, Array.size_append]
      omega
    · show (Str.empty.cps ++ (Str.ofString "there is no table: function ").cps ++ (Str.ofString (toString i)).cps ++ (Str.ofString ", place ").cps).size ≤ sizeLine
      rw [Array.size_append, Array.size_append, Array.size_append]
      omega
    · show (Str.empty.cps ++ (Str.ofString "there is no table: function ").cps ++ (Str.ofString (toString i)).cps ++ (Str.ofString ", place ").cps ++ (Str.ofString (toString j)).cps).size ≤ sizeLine
      rw [Array.size_append, Array.size_append, Array.size_append, Array.size_append]
      omega
    · exact ⟨a, adr mg "NoTable", [_], rfl, by simp, T.mk_NoTable.o, h, .int i, rfl, .ref a, rfl, a, adr mg "NoTable", rfl, T.mk_NoTable.o, T.mk_NoTable.n, .inl ⟨h, fun dx hd hne => ⟨.int j, rfl, .ref a, rfl, a, adr mg "NoTable", rfl, T.mk_NoTable.o, T.mk_NoTable.m, .inr ⟨dx, _, upd_same, by rw [upd_ne hne, upd_same], by simp, q dx hd hne⟩⟩⟩⟩)
end

section
variable {P : Program} {w : World} {K : PySem.W.Frag} {mg : Str → Option Value} {base : Heap}
def spSmB : Sp := fun vs H Q E => spSm1 vs H Q E ∨ spSm2 vs H Q E
theorem ok_law_sameB (T : Txt K mg) : Has P w K mg base 2 "_law_same" ps_law_same spSmB := by
  have h_law_same := ok_law_same (P := P) (w := w) (base := base) T
  refine has_of T.d_law_same sc_law_same bd_law_same (fun vs H Q E h => ?_) (fun f cdv A outer s H vs Q E hr h => ?_)
  · rcases h with ⟨S, S', d, x, y, rfl, _⟩ | ⟨S, S', d, x, y, rfl, _⟩
    · rfl
    · rfl
  · rcases h with h | h
    · obtain ⟨S, S', d, x, y, rfl, hf, hx, hy, q⟩ := h
      refine ⟨_, (pss_cons (ps_if (pt_val (pe_callB (clIsi (K := K) rfl) (by rfl) T.z_isinstance (by decide +kernel) (pa_cons (pv 1) (pa_cons (pe_bltn (v := .ty "tuple") (by rfl) T.z_tuple (by decide +kernel) rfl) pa_nil))))
        pss_never
        pss_nil)
      (pss_cons (ps_if (PW.pt (pw_or (pt_val (pe_callB (clIsi (K := K) rfl) (by rfl) T.z_isinstance (by decide +kernel) (pa_cons (pv 1) (pa_cons (pe_bltn (v := .ty "bool") (by rfl) T.z_bool (by decide +kernel) rfl) pa_nil)))) (pw_or1 (pt_val (pe_callB (clIsi (K := K) rfl) (by rfl) T.z_isinstance (by decide +kernel) (pa_cons (pv 0) (pa_cons (pe_bltn (v := .ty "bool") (by rfl) T.z_bool (by decide +kernel) rfl) pa_nil)))))))
        (pss_one (ps_ret (pe_and (pe_callB (clIsi (K := K) rfl) (by rfl) T.z_isinstance (by decide +kernel) (pa_cons (pv 1) (pa_cons (pe_bltn (v := .ty "bool") (by rfl) T.z_bool (by decide +kernel) rfl) pa_nil))) (pe_and (pe_callB (clIsi (K := K) rfl) (by rfl) T.z_isinstance (by decide +kernel) (pa_cons (pv 0) (pa_cons (pe_bltn (v := .ty "bool") (by rfl) T.z_bool (by decide +kernel) rfl) pa_nil))) (pe_one (pe_cmpR op_eq (pv 1) (pv 0) (nomark _)))))))
        pss_nil)
      (pss_cons (ps_if (pt_val (pe_callB (clIsi (K := K) rfl) (by rfl) T.z_isinstance (by decide +kernel) (pa_cons (pv 1) (pa_cons (pe_bltn (v := .ty "int") (by rfl) T.z_int (by decide +kernel) rfl) pa_nil))))
        (pss_one (ps_ret (pe_and (pe_callB (clIsi (K := K) rfl) (by rfl) T.z_isinstance (by decide +kernel) (pa_cons (pv 0) (pa_cons (pe_bltn (v := .ty "int") (by rfl) T.z_int (by decide +kernel) rfl) pa_nil))) (pe_one (pe_cmpR op_eq (pv 0) (pv 1) (nomark _))))))
        pss_nil)
      (pss_cons (ps_if (pt_val (pe_callB (clIsi (K := K) rfl) (by rfl) T.z_isinstance (by decide +kernel) (pa_cons (pv 1) (pa_cons (pe_bltn (v := .ty "str") (by rfl) T.z_str (by decide +kernel) rfl) pa_nil))))
        (pss_one (ps_ret (pe_and (pe_callB (clIsi (K := K) rfl) (by rfl) T.z_isinstance (by decide +kernel) (pa_cons (pv 0) (pa_cons (pe_bltn (v := .ty "str") (by rfl) T.z_str (by decide +kernel) rfl) pa_nil))) (pe_one (pe_cmpR op_eq (pv 0) (pv 1) (nomark _))))))
        pss_nil)
      (pss_one (ps_ret (pe_and (pe_cmpR op_isN (pv 1) pe_non (nomark _)) (pe_one (pe_cmpR op_isN (pv 0) pe_non (nomark _)))))))))), ?_⟩
      cases d with
      | int i =>
        cases hx.intE
        cases hy.intE
        walk_at "fl.wr"
        rw [decide_eq_true rfl]
        exact q
      | bool b =>
        cases hx.blE
        cases hy.blE
        walk_at "fl.wr"
        rw [decide_eq_true rfl]
        exact q
      | none =>
        cases hx.nonE
        cases hy.nonE
        walk_at "fl.w"
        refine g_ite (fun _ => ?_) (fun h => absurd rfl h)
        walk_at "fl.w"
        rw [decide_eq_true rfl]
        exact q
      | str _ => cases hf
      | list _ => cases hf
      | tuple _ => cases hf
      | dict _ => cases hf
    · obtain ⟨S, S', d, x, y, rfl, ⟨es, rfl, hz, hf⟩, hx, hy, q⟩ := h
      obtain ⟨a, xs, rfl, na, rx, hA⟩ := hx.tupE
      obtain ⟨b, ys, rfl, nb, ry, hB⟩ := hy.tupE
      have hlx := hA.len
      have hly := hB.len
      have hle : ((xs.length : Nat) : Int) = (ys.length : Nat) := by omega
      refine ⟨_, (pss_cons (ps_if (pt_val (pe_callB (clIsi (K := K) rfl) (by rfl) T.z_isinstance (by decide +kernel) (pa_cons (pv 1) (pa_cons (pe_bltn (v := .ty "tuple") (by rfl) T.z_tuple (by decide +kernel) rfl) pa_nil))))
        (pss_cons (ps_if (PW.pt (pw_or (pt_not (pt_val (pe_callB (clIsi (K := K) rfl) (by rfl) T.z_isinstance (by decide +kernel) (pa_cons (pv 0) (pa_cons (pe_bltn (v := .ty "tuple") (by rfl) T.z_tuple (by decide +kernel) rfl) pa_nil))))) (pw_or1 (pt_cmpR op_ne (pe_callB (clLen (K := K) rfl) (by rfl) T.z_len (by decide +kernel) (pa_cons (pv 0) pa_nil)) (pe_callB (clLen (K := K) rfl) (by rfl) T.z_len (by decide +kernel) (pa_cons (pv 1) pa_nil)) (nomark _)))))
        (pss_one (ps_ret pe_bl))
        pss_nil)
      (pss_cons (ps_for PassesOwn.never rfl (pi_range1 (by rfl) T.z_range (pa_cons (pe_callB (clLen (K := K) rfl) (by rfl) T.z_len (by decide +kernel) (pa_cons (pv 1) pa_nil)) pa_nil)) (pg_name (i := 2) sc_law_same.nd rfl (.inl rfl))
        (pss_one (ps_if (pt_not (pt_val (pe_h h_law_same (hr.mono (by decide)) (pa_cons (pe_ix (ixT (K := K) rfl) (pv 0) (pv 2) (fun _ _ => rfl)) (pa_cons (pe_ix (ixT (K := K) rfl) (pv 1) (pv 2) (fun _ _ => rfl)) pa_nil)))))
        (pss_one (ps_ret pe_bl))
        pss_nil)))
      (pss_one (ps_ret pe_bl))))
        pss_nil)
      (pss_cons ps_never
      (pss_cons ps_never
      (pss_cons ps_never
      (pss_one ps_never))))), ?_⟩
      walk_at "fl.w"
      refine g_iteN (fun h => absurd hle h) (fun _ => ?_)
      walk_at "fl.w"
      refine forK_r (fun i σ' H' => (∃ u, σ' = [some (.ref a), some (.ref b), u]) ∧ H' = H) ⟨⟨_, rfl⟩, rfl⟩ ?_ ?_
      · intro i σ' H' hi ⟨⟨u, e⟩, e2⟩
        subst e e2
        have hi2 : i < es.length := by omega
        have hxi : xs[i]? = some xs[i] := List.getElem?_eq_getElem (by omega)
        have hyi : ys[i]? = some ys[i] := List.getElem?_eq_getElem (by omega)
        obtain ⟨d1, hd1, dx⟩ := hA.get hxi
        obtain ⟨d2, hd2, dy⟩ := hB.get hyi
        cases hd1.symm.trans hd2
        have ax : atI xs (i : Int) = some xs[i] := atI_nat hxi
        have ay : atI ys (i : Int) = some ys[i] := atI_nat hyi
        have e0 : (0 : Int) + (i : Int) = (i : Int) := Int.zero_add _
        rw [e0]
        walk_at "fl.w"
        refine ⟨S, S', d1, _, _, rfl, hf _ (List.mem_of_getElem? hd1), dx, dy, ?_⟩
        walk_at "fl.w"
        exact ⟨⟨_, rfl⟩, rfl⟩
      · intro σ' H' ⟨⟨u, e⟩, e2⟩
        subst e e2
        walk_at "fl.w"
        exact q
def spSmlB : Sp := fun vs H Q _ => ∃ (S T : List Addr) (ds : List PyData) (x y : V), vs = [x, y] ∧ ds.length ≤ 900 ∧ (∀ d, d ∈ ds → FlD d ∨ TfD d) ∧ Dq S H x (.list ds) ∧ Dq T H y (.list ds) ∧ Q (.bl true) H
theorem ok_law_same_listB (T : Txt K mg) : Has P w K mg base 3 "_law_same_list" ps_law_same_list spSmlB := by
  have h_law_same := ok_law_sameB (P := P) (w := w) (base := base) T
  refine has_of T.d_law_same_list sc_law_same_list bd_law_same_list (fun vs H Q E h => ?_) (fun f cdv A outer s H vs Q E hr h => ?_)
  · obtain ⟨S, S', d, x, y, rfl, _⟩ := h
    rfl
  · obtain ⟨S, S', es, x, y, rfl, hz, hf, hx, hy, q⟩ := h
    obtain ⟨a, xs, rfl, na, rx, hA⟩ := hx.lstE
    obtain ⟨b, ys, rfl, nb, ry, hB⟩ := hy.lstE
    have hlx := hA.len
    have hly := hB.len
    have hle : ((xs.length : Nat) : Int) = (ys.length : Nat) := by omega
    refine ⟨_, (pss_cons (ps_if (PW.pt (pw_or (pt_not (pt_val (pe_callB (clIsi (K := K) rfl) (by rfl) T.z_isinstance (by decide +kernel) (pa_cons (pv 0) (pa_cons (pe_bltn (v := .ty "list") (by rfl) T.z_list (by decide +kernel) rfl) pa_nil))))) (pw_or1 (pt_cmpR op_ne (pe_callB (clLen (K := K) rfl) (by rfl) T.z_len (by decide +kernel) (pa_cons (pv 0) pa_nil)) (pe_callB (clLen (K := K) rfl) (by rfl) T.z_len (by decide +kernel) (pa_cons (pv 1) pa_nil)) (nomark _)))))
        (pss_one (ps_ret pe_bl))
        pss_nil)
      (pss_cons (ps_for PassesOwn.never rfl (pi_range1 (by rfl) T.z_range (pa_cons (pe_callB (clLen (K := K) rfl) (by rfl) T.z_len (by decide +kernel) (pa_cons (pv 1) pa_nil)) pa_nil)) (pg_name (i := 2) sc_law_same_list.nd rfl (.inl rfl))
        (pss_one (ps_if (pt_not (pt_val (pe_h h_law_same (hr.mono (by decide)) (pa_cons (pe_ix (ixL (K := K) rfl) (pv 0) (pv 2) (fun _ _ => rfl)) (pa_cons (pe_ix (ixL (K := K) rfl) (pv 1) (pv 2) (fun _ _ => rfl)) pa_nil)))))
        (pss_one (ps_ret pe_bl))
        pss_nil)))
      (pss_one (ps_ret pe_bl)))), ?_⟩
    walk_at "fl.w"
    refine g_iteN (fun h => absurd hle h) (fun _ => ?_)
    walk_at "fl.w"
    refine forK_r (fun i σ' H' => (∃ u, σ' = [some (.ref a), some (.ref b), u]) ∧ H' = H) ⟨⟨_, rfl⟩, rfl⟩ ?_ ?_
    · intro i σ' H' hi ⟨⟨u, e⟩, e2⟩
      subst e e2
      have hi2 : i < es.length := by omega
      have hxi : xs[i]? = some xs[i] := List.getElem?_eq_getElem (by omega)
      have hyi : ys[i]? = some ys[i] := List.getElem?_eq_getElem (by omega)
      obtain ⟨d1, hd1, dx⟩ := hA.get hxi
      obtain ⟨d2, hd2, dy⟩ := hB.get hyi
      cases hd1.symm.trans hd2
      have ax : atI xs (i : Int) = some xs[i] := atI_nat hxi
      have ay : atI ys (i : Int) = some ys[i] := atI_nat hyi
      have e0 : (0 : Int) + (i : Int) = (i : Int) := Int.zero_add _
      rw [e0]
      walk_at "fl.w"
      rcases hf _ (List.mem_of_getElem? hd1) with ht | ht
      · refine .inl ⟨S, S', d1, _, _, rfl, ht, dx, dy, ?_⟩
        walk_at "fl.w"
        exact ⟨⟨_, rfl⟩, rfl⟩
      · refine .inr ⟨S, S', d1, _, _, rfl, ht, dx, dy, ?_⟩
        walk_at "fl.w"
        exact ⟨⟨_, rfl⟩, rfl⟩
    · intro σ' H' ⟨⟨u, e⟩, e2⟩
      subst e e2
      walk_at "fl.w"
      exact q
end

section
variable {P : Program} {w : World} {K : PySem.W.Frag} {mg : Str → Option Value} {base : Heap}
local macro_rules | `(tactic| walk_at "fl.t") => `(tactic| (with_reducible refine g_chainW ?_))
local macro_rules | `(tactic| walk_at "fl.t") => `(tactic| (with_reducible refine g_ifE ?_))
local macro_rules | `(tactic| walk_at "fl.t") => `(tactic| (with_reducible refine g_max3 ?_))
local macro_rules | `(tactic| walk_at "fl.t") => `(tactic| (with_reducible refine g_cb3 ?_))
local macro_rules | `(tactic| walk_at "fl.w") => `(tactic| repeat walk_at "fl.t")
theorem g_ninL {K : PySem.W.Frag} {x : V} {p : Addr} {xs : List V} {H : Hp} {Q : VK} (h : SqL K H p xs) (f1 : flatV x = true) (f2 : xs.all flatV = true) (q : Q (.bl (!inV x xs)) H) : rIn K true x (.ref p) H Q := ⟨p, xs, rfl, .inl h, f1, f2, q⟩
/-- the law's cost of an instruction -/
def lcaP (r : In) (left : Int) (cs : List Co) : Option Co :=
  match eff r.1 with
  | none => none
  | some e => if r.1 ∈ jzL ∧ (r.2 < 0 ∨ r.2 > left - 1) then none else
    if r.1 ∈ caL then match costOf cs r.2 with
      | none => none
      | some c => if r.1 = "repeat" ∧ c.2.1 ≠ 0 then none else
        if r.1 = "call" then some (c.1, c.2.1, max (max 0 c.2.1) c.2.2.1, 1 + c.2.2.2)
        else some (max 1 (1 + c.1), -1, max 0 (c.2.2.1 - 1), 1 + 16 * c.2.2.2)
    else some (e.1, e.2 - e.1, max 0 (e.2 - e.1), 1)
def olD : Option Co → PyData
  | none => .none
  | some c => .list [.int c.1, .int c.2.1, .int c.2.2.1, .int c.2.2.2]
def fCa (ds : List PyData) (d : PyData) : Prop := ∃ (c : List In) (cs : List Co) (i : Nat) (r : In), ds = [codeD c, costsD cs, .int i] ∧ c[i]? = some r ∧ CodeOk c ∧ CostsOk cs ∧ d = olD (lcaP r ((c.length : Int) - i) cs)
theorem ok_law_cost_at (T : Txt K mg) : Has P w K mg base 3 "_law_cost_at" ps_law_cost_at (spD fCa) := by
  have h_law_effect := ok_law_effect (P := P) (w := w) (base := base) T
  refine has_of T.d_law_cost_at sc_law_cost_at bd_law_cost_at (fun vs H Q E h => ?_) (fun f cdv A outer s H vs Q E hr h => ?_)
  · obtain ⟨S, ds, d, _, hd, ⟨c, cs, i, r, rfl, _⟩, _⟩ := h
    rw [hd.len]; rfl
  · obtain ⟨S, ds, d, hS, hd, ⟨c, cs, i, r, rfl, hc, hco, hcs, rfl⟩, q⟩ := h
    obtain ⟨v, _, rfl, hv, hd⟩ := hd.consE
    obtain ⟨_, _, rfl, h2, hd⟩ := hd.consE
    obtain ⟨_, _, rfl, h3, hd⟩ := hd.consE
    cases hd.nilE
    cases h3.intE
    obtain ⟨a, xs, rfl, na, ra, hX⟩ := hv.lstE
    obtain ⟨b, ys, rfl, nb, rb, hY⟩ := h2.lstE
    obtain ⟨x, hx, dx⟩ := hX.getD (i := i) (d := inD r) (by rw [List.getElem?_map, hc]; rfl)
    obtain ⟨o, rfl, no, ro⟩ := inE dx
    have ax : atI xs (i : Int) = some (.ref o) := atI_nat hx
    have lx := hX.len
    have ly := hY.len
    rw [List.length_map] at lx ly
    refine ⟨_, (pss_cons (ps_set (i := 3) sc_law_cost_at.nd rfl (.inl rfl) (pe_ix (ixL (K := K) rfl) (pv 0) (pv 2) (fun _ _ => rfl)))
      (pss_cons (ps_set (i := 4) sc_law_cost_at.nd rfl (.inl rfl) (pe_h h_law_effect (hr.mono (by decide)) (pa_cons (pe_ix (ixT (K := K) rfl) (pv 3) pe_int (fun _ _ => rfl)) pa_nil)))
      (pss_cons (ps_if (PW.pt (pw_or (pt_cmpR op_isN (pv 4) pe_non (nomark _)) (pw_or1 (PW.pt (pw_and (pt_cmpR (opIn (K := K) rfl) (pe_ix (ixT (K := K) rfl) (pv 3) pe_int (fun _ _ => rfl)) (pe_lst (pa_cons pe_str (pa_cons pe_str pa_nil))) (by rfl)) (pw_and1 (PW.pt (pw_or (pt_cmpR op_lt (pe_ix (ixT (K := K) rfl) (pv 3) pe_int (fun _ _ => rfl)) pe_int (nomark _)) (pw_or1 (pt_cmpR op_gt (pe_ix (ixT (K := K) rfl) (pv 3) pe_int (fun _ _ => rfl)) (pe_op op_sub (pe_op op_sub (pe_callB (clLen (K := K) rfl) (by rfl) T.z_len (by decide +kernel) (pa_cons (pv 0) pa_nil)) pe_int) (pv 2)) (nomark _)))))))))))
        (pss_one (ps_ret pe_non))
        pss_nil)
      (pss_cons (ps_if (pt_cmpR (opNotIn (K := K) rfl) (pe_ix (ixT (K := K) rfl) (pv 3) pe_int (fun _ _ => rfl)) (pe_lst (pa_cons pe_str (pa_cons pe_str pa_nil))) (by rfl))
        (pss_one (ps_ret (pe_lst (pa_cons (pe_ix (ixT (K := K) rfl) (pv 4) pe_int (fun _ _ => rfl)) (pa_cons (pe_op op_sub (pe_ix (ixT (K := K) rfl) (pv 4) pe_int (fun _ _ => rfl)) (pe_ix (ixT (K := K) rfl) (pv 4) pe_int (fun _ _ => rfl))) (pa_cons (pe_callB (call_max' rfl) (by rfl) T.z_max (by decide +kernel) (pa_cons pe_int (pa_cons (pe_op op_sub (pe_ix (ixT (K := K) rfl) (pv 4) pe_int (fun _ _ => rfl)) (pe_ix (ixT (K := K) rfl) (pv 4) pe_int (fun _ _ => rfl))) pa_nil))) (pa_cons pe_int pa_nil)))))))
        pss_nil)
      (pss_cons (ps_if (PW.pt (pw_or (pt_cmpR op_lt (pe_ix (ixT (K := K) rfl) (pv 3) pe_int (fun _ _ => rfl)) pe_int (nomark _)) (pw_or (pt_cmpR op_ge (pe_ix (ixT (K := K) rfl) (pv 3) pe_int (fun _ _ => rfl)) (pe_callB (clLen (K := K) rfl) (by rfl) T.z_len (by decide +kernel) (pa_cons (pv 1) pa_nil)) (nomark _)) (pw_or1 (PW.pt (pw_and (pt_cmpR op_eq (pe_ix (ixT (K := K) rfl) (pv 3) pe_int (fun _ _ => rfl)) pe_str (nomark _)) (pw_and1 (pt_cmpR op_ne (pe_ix (ixT (K := K) rfl) (pe_ix (ixL (K := K) rfl) (pv 1) (pe_ix (ixT (K := K) rfl) (pv 3) pe_int (fun _ _ => rfl)) (fun _ _ => rfl)) pe_int (fun _ _ => rfl)) pe_int (nomark _)))))))))
        (pss_one (ps_ret pe_non))
        pss_nil)
      (pss_cons (ps_set (i := 5) sc_law_cost_at.nd rfl (.inl rfl) (pe_ix (ixL (K := K) rfl) (pv 1) (pe_ix (ixT (K := K) rfl) (pv 3) pe_int (fun _ _ => rfl)) (fun _ _ => rfl)))
      (pss_cons (ps_if (pt_cmpR op_eq (pe_ix (ixT (K := K) rfl) (pv 3) pe_int (fun _ _ => rfl)) pe_str (nomark _))
        (pss_one (ps_ret (pe_lst (pa_cons (pe_ix (ixT (K := K) rfl) (pv 5) pe_int (fun _ _ => rfl)) (pa_cons (pe_ix (ixT (K := K) rfl) (pv 5) pe_int (fun _ _ => rfl)) (pa_cons (pe_callB (clMax3 rfl) (by rfl) T.z_max (by decide +kernel) (pa_cons pe_int (pa_cons (pe_ix (ixT (K := K) rfl) (pv 5) pe_int (fun _ _ => rfl)) (pa_cons (pe_ix (ixT (K := K) rfl) (pv 5) pe_int (fun _ _ => rfl)) pa_nil)))) (pa_cons (pe_op op_add pe_int (pe_ix (ixT (K := K) rfl) (pv 5) pe_int (fun _ _ => rfl))) pa_nil)))))))
        pss_nil)
      (pss_one (ps_ret (pe_lst (pa_cons (pe_callB (call_max' rfl) (by rfl) T.z_max (by decide +kernel) (pa_cons pe_int (pa_cons (pe_op op_add pe_int (pe_ix (ixT (K := K) rfl) (pv 5) pe_int (fun _ _ => rfl))) pa_nil))) (pa_cons (pe_un un_neg pe_int) (pa_cons (pe_callB (call_max' rfl) (by rfl) T.z_max (by decide +kernel) (pa_cons pe_int (pa_cons (pe_op op_sub (pe_ix (ixT (K := K) rfl) (pv 5) pe_int (fun _ _ => rfl)) pe_int) pa_nil))) (pa_cons (pe_op op_add pe_int (pe_op op_mul pe_int (pe_ix (ixT (K := K) rfl) (pv 5) pe_int (fun _ _ => rfl)))) pa_nil)))))))))))))), ?_⟩
    walk_at "fl.w"
    refine spD_app S [.str r.1] (opD (eff r.1)) hS (.cons (.str _) .nil) ⟨r.1, rfl, rfl⟩ (fun ve H1 sm1 de => ?_)
    cases he : eff r.1 with
    | none =>
      rw [he] at de
      cases de.nonE
      walk_at "fl.w"
      refine g_ite (fun _ => ?_) (fun z => absurd rfl z)
      walk_at "fl.w"
      refine q _ _ sm1 ?_
      rw [show lcaP r ((c.length : Int) - i) cs = none by unfold lcaP; rw [he]]
      exact .non
    | some e =>
      rw [he] at de
      obtain ⟨p, rfl, np, rp⟩ := prE de
      have ra1 := sm1 _ _ ra
      have rb1 := sm1 _ _ rb
      have ro1 := sm1 _ _ ro
      have al1 := hS.same sm1
      walk_at "fl.w"
      refine g_ite (fun z => by cases z) (fun _ => ?_)
      walk_at "fl.w"
      rename_i l1 hl1
      refine g_inL (xs := jzL.map V.str) (SqL.of upd_same) rfl (strs_flat _) ?_
      rw [strs_in]
      have sm2 := sm1.trans (Fl.Same.new (o := .lst [.str "jump", .str "jumpzero"]) hl1)
      have rp2 := raw_new (u := .lst [.str "jump", .str "jumpzero"]) hl1 rp
      have ro2 := raw_new (u := .lst [.str "jump", .str "jumpzero"]) hl1 ro1
      have ra2 := raw_new (u := .lst [.str "jump", .str "jumpzero"]) hl1 ra1
      have rb2 := raw_new (u := .lst [.str "jump", .str "jumpzero"]) hl1 rb1
      have wj : (r.1 ∈ jzL ∧ (r.2 < 0 ∨ r.2 > (c.length : Int) - i - 1)) → lcaP r ((c.length : Int) - i) cs = none := fun z => by unfold lcaP; rw [he]; simp only; rw [if_pos z]
      have wk : ¬ (r.1 ∈ jzL ∧ (r.2 < 0 ∨ r.2 > (c.length : Int) - i - 1)) → lcaP r ((c.length : Int) - i) cs = if r.1 ∈ caL then match costOf cs r.2 with
        | none => none
        | some c => if r.1 = "repeat" ∧ c.2.1 ≠ 0 then none else
          if r.1 = "call" then some (c.1, c.2.1, max (max 0 c.2.1) c.2.2.1, 1 + c.2.2.2)
          else some (max 1 (1 + c.1), -1, max 0 (c.2.2.1 - 1), 1 + 16 * c.2.2.2)
        else some (e.1, e.2 - e.1, max 0 (e.2 - e.1), 1) := fun z => by unfold lcaP; rw [he]; simp only; rw [if_neg z]
      walk_at "fl.w"
      refine g_ite (fun hj => ?_) (fun hj => ?_)
      · walk_at "fl.w"
        refine g_ite (fun h0 => ?_) (fun h0 => ?_)
        · rw [wj ⟨hj, .inl h0⟩] at q
          walk_at "fl.w"
          exact q _ _ sm2 .non
        walk_at "fl.w"
        refine g_ite (fun h1 => ?_) (fun h1 => ?_)
        · rw [wj ⟨hj, .inr (by omega)⟩] at q
          walk_at "fl.w"
          exact q _ _ sm2 .non
        replace wk := wk fun z => z.2.elim h0 fun z => h1 (by omega)
        walk_at "fl.w"
        rename_i l2 hl2
        refine g_ninL (xs := caL.map V.str) (SqL.of upd_same) rfl (strs_flat _) ?_
        rw [strs_in]
        have sm3 := sm2.trans (Fl.Same.new (o := .lst [.str "call", .str "repeat"]) hl2)
        have rp3 := raw_new (u := .lst [.str "call", .str "repeat"]) hl2 rp2
        have ro3 := raw_new (u := .lst [.str "call", .str "repeat"]) hl2 ro2
        have rb3 := raw_new (u := .lst [.str "call", .str "repeat"]) hl2 rb2
        have al3 := hS.same sm3
        walk_at "fl.w"
        refine g_iteN (fun hca => ?_) (fun hca => ?_)
        · rw [if_neg hca] at wk
          rw [wk] at q
          walk_at "fl.w"
          rename_i tt htt
          simp only [mx_if] at q
          exact q _ _ (sm3.trans (Fl.Same.new htt)) (show Dq S _ _ (.list [.int _, .int _, .int _, .int _]) from .lst (al3.ni htt) upd_same (.cons (.int _) (.cons (.int _) (.cons (.int _) (.cons (.int _) .nil)))))
        rw [if_pos hca] at wk
        walk_at "fl.w"
        refine g_ite (fun b0 => ?_) (fun b0 => ?_)
        · rw [show costOf cs r.2 = none by unfold costOf; rw [if_neg (by omega)]] at wk
          rw [wk] at q
          walk_at "fl.w"
          exact q _ _ sm3 .non
        walk_at "fl.w"
        refine g_ite (fun b1 => ?_) (fun b1 => ?_)
        · rw [show costOf cs r.2 = none by unfold costOf; rw [if_pos (by omega)]; exact List.getElem?_eq_none (by omega)] at wk
          rw [wk] at q
          walk_at "fl.w"
          exact q _ _ sm3 .non
        have hlt : r.2.toNat < cs.length := by omega
        have hge : cs[r.2.toNat]? = some cs[r.2.toNat] := List.getElem?_eq_getElem hlt
        have hcf : costOf cs r.2 = some cs[r.2.toNat] := by unfold costOf; rw [if_pos (by omega), hge]
        obtain ⟨z, hz, dz⟩ := (hY.same sm3).getD (i := r.2.toNat) (d := coD cs[r.2.toNat]) (by rw [List.getElem?_map, hge]; rfl)
        rw [hcf] at wk
        have hbl : (cs[r.2.toNat]).2.2.2.natAbs ≤ 1000000 := hcs.2 _ (List.mem_of_getElem? hge)
        generalize cs[r.2.toNat] = co at wk dz hbl
        obtain ⟨oa, rfl, noa, roa⟩ := coE dz
        have az : atI ys r.2 = some (.ref oa) := by
          have := atI_nat hz
          rwa [show ((r.2.toNat : Nat) : Int) = r.2 by omega] at this
        walk_at "fl.w"
        refine g_ite (fun hrp => ?_) (fun hrp => ?_)
        · walk_at "fl.w"
          refine g_iteN (fun hch => ?_) (fun hch => ?_)
          · simp only [if_pos (show r.1 = "repeat" ∧ co.2.1 ≠ 0 from ⟨hrp, hch⟩)] at wk
            rw [wk] at q
            walk_at "fl.w"
            exact q _ _ sm3 .non
          · have hnc : ¬ r.1 = "call" := by rw [hrp]; decide
            simp only [if_neg (show ¬ (r.1 = "repeat" ∧ co.2.1 ≠ 0) from fun z => z.2 hch), if_neg hnc] at wk
            rw [wk] at q
            walk_at "fl.w"
            refine g_ite (fun z => absurd z hnc) (fun _ => ?_)
            walk_at "fl.w"
            rename_i tt htt
            simp only [mx_if] at q
            exact q _ _ (sm3.trans (Fl.Same.new htt)) (show Dq S _ _ (.list [.int _, .int _, .int _, .int _]) from .lst (al3.ni htt) upd_same (.cons (.int _) (.cons (.int _) (.cons (.int _) (.cons (.int _) .nil)))))
        · simp only [if_neg (show ¬ (r.1 = "repeat" ∧ co.2.1 ≠ 0) from fun z => hrp z.1)] at wk
          have hcl : r.1 = "call" := by
            rcases List.mem_cons.mp hca with z | z
            · exact z
            · exact absurd (List.mem_singleton.mp z) hrp
          simp only [if_pos hcl] at wk
          rw [wk] at q
          walk_at "fl.w"
          refine g_ite (fun _ => ?_) (fun z => absurd hcl z)
          walk_at "fl.w"
          rename_i tt htt
          simp only [mx_if] at q
          exact q _ _ (sm3.trans (Fl.Same.new htt)) (show Dq S _ _ (.list [.int _, .int _, .int _, .int _]) from .lst (al3.ni htt) upd_same (.cons (.int _) (.cons (.int _) (.cons (.int _) (.cons (.int _) .nil)))))
      · replace wk := wk fun z => hj z.1
        walk_at "fl.w"
        rename_i l2 hl2
        refine g_ninL (xs := caL.map V.str) (SqL.of upd_same) rfl (strs_flat _) ?_
        rw [strs_in]
        have sm3 := sm2.trans (Fl.Same.new (o := .lst [.str "call", .str "repeat"]) hl2)
        have rp3 := raw_new (u := .lst [.str "call", .str "repeat"]) hl2 rp2
        have ro3 := raw_new (u := .lst [.str "call", .str "repeat"]) hl2 ro2
        have rb3 := raw_new (u := .lst [.str "call", .str "repeat"]) hl2 rb2
        have al3 := hS.same sm3
        walk_at "fl.w"
        refine g_iteN (fun hca => ?_) (fun hca => ?_)
        · rw [if_neg hca] at wk
          rw [wk] at q
          walk_at "fl.w"
          rename_i tt htt
          simp only [mx_if] at q
          exact q _ _ (sm3.trans (Fl.Same.new htt)) (show Dq S _ _ (.list [.int _, .int _, .int _, .int _]) from .lst (al3.ni htt) upd_same (.cons (.int _) (.cons (.int _) (.cons (.int _) (.cons (.int _) .nil)))))
        rw [if_pos hca] at wk
        walk_at "fl.w"
        refine g_ite (fun b0 => ?_) (fun b0 => ?_)
        · rw [show costOf cs r.2 = none by unfold costOf; rw [if_neg (by omega)]] at wk
          rw [wk] at q
          walk_at "fl.w"
          exact q _ _ sm3 .non
        walk_at "fl.w"
        refine g_ite (fun b1 => ?_) (fun b1 => ?_)
        · rw [show costOf cs r.2 = none by unfold costOf; rw [if_pos (by omega)]; exact List.getElem?_eq_none (by omega)] at wk
          rw [wk] at q
          walk_at "fl.w"
          exact q _ _ sm3 .non
        have hlt : r.2.toNat < cs.length := by omega
        have hge : cs[r.2.toNat]? = some cs[r.2.toNat] := List.getElem?_eq_getElem hlt
        have hcf : costOf cs r.2 = some cs[r.2.toNat] := by unfold costOf; rw [if_pos (by omega), hge]
        obtain ⟨z, hz, dz⟩ := (hY.same sm3).getD (i := r.2.toNat) (d := coD cs[r.2.toNat]) (by rw [List.getElem?_map, hge]; rfl)
        rw [hcf] at wk
        have hbl : (cs[r.2.toNat]).2.2.2.natAbs ≤ 1000000 := hcs.2 _ (List.mem_of_getElem? hge)
        generalize cs[r.2.toNat] = co at wk dz hbl
        obtain ⟨oa, rfl, noa, roa⟩ := coE dz
        have az : atI ys r.2 = some (.ref oa) := by
          have := atI_nat hz
          rwa [show ((r.2.toNat : Nat) : Int) = r.2 by omega] at this
        walk_at "fl.w"
        refine g_ite (fun hrp => ?_) (fun hrp => ?_)
        · walk_at "fl.w"
          refine g_iteN (fun hch => ?_) (fun hch => ?_)
          · simp only [if_pos (show r.1 = "repeat" ∧ co.2.1 ≠ 0 from ⟨hrp, hch⟩)] at wk
            rw [wk] at q
            walk_at "fl.w"
            exact q _ _ sm3 .non
          · have hnc : ¬ r.1 = "call" := by rw [hrp]; decide
            simp only [if_neg (show ¬ (r.1 = "repeat" ∧ co.2.1 ≠ 0) from fun z => z.2 hch), if_neg hnc] at wk
            rw [wk] at q
            walk_at "fl.w"
            refine g_ite (fun z => absurd z hnc) (fun _ => ?_)
            walk_at "fl.w"
            rename_i tt htt
            simp only [mx_if] at q
            exact q _ _ (sm3.trans (Fl.Same.new htt)) (show Dq S _ _ (.list [.int _, .int _, .int _, .int _]) from .lst (al3.ni htt) upd_same (.cons (.int _) (.cons (.int _) (.cons (.int _) (.cons (.int _) .nil)))))
        · simp only [if_neg (show ¬ (r.1 = "repeat" ∧ co.2.1 ≠ 0) from fun z => hrp z.1)] at wk
          have hcl : r.1 = "call" := by
            rcases List.mem_cons.mp hca with z | z
            · exact z
            · exact absurd (List.mem_singleton.mp z) hrp
          simp only [if_pos hcl] at wk
          rw [wk] at q
          walk_at "fl.w"
          refine g_ite (fun _ => ?_) (fun z => absurd hcl z)
          walk_at "fl.w"
          rename_i tt htt
          simp only [mx_if] at q
          exact q _ _ (sm3.trans (Fl.Same.new htt)) (show Dq S _ _ (.list [.int _, .int _, .int _, .int _]) from .lst (al3.ni htt) upd_same (.cons (.int _) (.cons (.int _) (.cons (.int _) (.cons (.int _) .nil)))))
end

section
/-- the program's way on and the law's cost of an instruction -/
theorem way_lca (r : In) (left : Int) (p : Pr) (cs : List Co) (h0 : ∀ c, c ∈ cs → 0 ≤ c.1) : (lcaP r left cs = none ∧ wayP r left p cs = none) ∨
    ∃ a w, lcaP r left cs = some a ∧ wayP r left p cs = some w ∧ w.1 = p.1 + a.2.1 ∧ w.2.1 = p.2 + a.2.2.2 ∧ max 0 w.2.2.1 = max 0 (a.1 - p.1) ∧ max p.1 w.2.2.2 = p.1 + a.2.2.1 := by
  unfold lcaP wayP
  cases he : eff r.1 with
  | none => exact .inl ⟨rfl, rfl⟩
  | some e =>
    simp only
    by_cases hj : r.1 ∈ jzL ∧ ¬ (0 ≤ r.2 ∧ r.2 < left)
    · rw [if_pos hj, if_pos (show r.1 ∈ jzL ∧ (r.2 < 0 ∨ r.2 > left - 1) from ⟨hj.1, by have := hj.2; omega⟩)]
      exact .inl ⟨rfl, rfl⟩
    rw [if_neg hj, if_neg (show ¬ (r.1 ∈ jzL ∧ (r.2 < 0 ∨ r.2 > left - 1)) from fun z => hj ⟨z.1, by have := z.2; omega⟩)]
    by_cases hc : r.1 ∈ caL
    · rw [if_pos hc, if_pos hc]
      cases hco : costOf cs r.2 with
      | none => exact .inl ⟨rfl, rfl⟩
      | some c =>
        have hm : c ∈ cs := by
          unfold costOf at hco
          by_cases h : 0 ≤ r.2
          · rw [if_pos h] at hco; exact List.mem_of_getElem? hco
          · rw [if_neg h] at hco; exact nomatch hco
        have n0 := h0 c hm
        simp only
        by_cases hr : r.1 = "repeat" ∧ c.2.1 ≠ 0
        · rw [if_pos hr, if_pos hr]
          exact .inl ⟨rfl, rfl⟩
        rw [if_neg hr, if_neg hr]
        refine .inr ?_
        rcases List.mem_cons.mp hc with hcl | hrp
        · have e0 : e = (0, 0) := by
            rw [hcl, show eff "call" = some (0, 0) by decide +kernel] at he
            exact (Option.some.inj he).symm
          have hnr : ¬ r.1 = "repeat" := by rw [hcl]; decide
          rw [if_pos hcl, if_neg hnr, e0]
          exact ⟨_, _, rfl, rfl, by dsimp only <;> omega, by dsimp only <;> omega, by dsimp only <;> omega, by dsimp only <;> omega⟩
        · have hrp := List.mem_singleton.mp hrp
          have e0 : e = (1, 0) := by
            rw [hrp, show eff "repeat" = some (1, 0) by decide +kernel] at he
            exact (Option.some.inj he).symm
          have hnc : ¬ r.1 = "call" := by rw [hrp]; decide
          have hz : c.2.1 = 0 := by
            by_cases z : c.2.1 = 0
            · exact z
            · exact absurd ⟨hrp, z⟩ hr
          rw [if_neg hnc, if_pos hrp, e0]
          exact ⟨_, _, rfl, rfl, by dsimp only <;> omega, by dsimp only <;> omega, by dsimp only <;> omega, by dsimp only <;> omega⟩
    · rw [if_neg hc, if_neg hc]
      exact .inr ⟨_, _, rfl, rfl, by dsimp only <;> omega, by dsimp only <;> omega, by dsimp only <;> omega, by dsimp only <;> omega⟩
/-- the program's turn at the places behind -/
def lstB : List Int → Co → List (Option Pr) → Option (List (Option Pr))
  | [], _, t => some t
  | x :: ps, w, t => match atT t x with
    | none => lstB ps w (t.set x.toNat (some (raisedP none w)))
    | some p => if p.1 ≠ w.1 then none else lstB ps w (t.set x.toNat (some (raisedP (some p) w)))
/-- the law's -/
def mdB : List Int → Pr → List (Option Pr) → Option (List (Option Pr))
  | [], _, t => some t
  | x :: ps, v, t => match atT t x with
    | none => mdB ps v (t.set x.toNat (some v))
    | some p => if p.1 ≠ v.1 then none else if p.2 < v.2 then mdB ps v (t.set x.toNat (some v)) else mdB ps v t
theorem atT_some {t : List (Option Pr)} {x : Int} {p : Pr} (h : atT t x = some p) : t[x.toNat]? = some (some p) := by
  unfold atT at h
  cases e : t[x.toNat]? with
  | none => rw [e] at h; cases h
  | some q => rw [e] at h; exact congrArg some h
theorem set_self {t : List (Option Pr)} {n : Nat} {v : Option Pr} (h : t[n]? = some v) : t.set n v = t := by
  refine List.ext_getElem? fun i => ?_
  rw [List.getElem?_set]
  by_cases e : n = i
  · subst e
    rw [if_pos rfl, if_pos (List.getElem?_eq_some_iff.mp h).1, h]
  · rw [if_neg e]
theorem lst_md {w : Co} (h : 0 ≤ w.2.1) : ∀ (ps : List Int) (t : List (Option Pr)), lstB ps w t = mdB ps (w.1, w.2.1) t
  | [], _ => rfl
  | x :: ps, t => by
    unfold lstB mdB
    cases e : atT t x with
    | none =>
      simp only
      rw [lst_md h ps]
      unfold raisedP
      rw [show max (0 : Int) w.2.1 = w.2.1 by omega]
    | some p =>
      simp only
      by_cases e1 : p.1 ≠ w.1
      · rw [if_pos e1, if_pos e1]
      · rw [if_neg e1, if_neg e1, lst_md h ps]
        have e2 : p.1 = w.1 := by simpa using e1
        by_cases e3 : p.2 < w.2.1
        · rw [if_pos e3]
          unfold raisedP
          rw [show max p.2 w.2.1 = w.2.1 by omega]
        · rw [if_neg e3]
          unfold raisedP
          rw [show max p.2 w.2.1 = p.2 by omega, ← e2, set_self (atT_some e)]
theorem way_le {r : In} {left : Int} {p : Pr} {cs : List Co} {w : Co} (h : wayP r left p cs = some w) : w.1 ≤ w.2.2.2 := by
  unfold wayP at h
  cases he : eff r.1 with
  | none => rw [he] at h; cases h
  | some e =>
    rw [he] at h
    simp only at h
    by_cases hj : r.1 ∈ jzL ∧ ¬ (0 ≤ r.2 ∧ r.2 < left)
    · rw [if_pos hj] at h; cases h
    rw [if_neg hj] at h
    by_cases hc : r.1 ∈ caL
    · rw [if_pos hc] at h
      cases hco : costOf cs r.2 with
      | none => rw [hco] at h; cases h
      | some c =>
        rw [hco] at h
        simp only at h
        by_cases hr : r.1 = "repeat" ∧ c.2.1 ≠ 0
        · rw [if_pos hr] at h; cases h
        rw [if_neg hr] at h
        cases h
        dsimp only
        omega
    · rw [if_neg hc] at h
      cases h
      exact Int.le_refl _
theorem lca_pos {r : In} {left : Int} {cs : List Co} {a : Co} (h0 : ∀ c, c ∈ cs → 0 ≤ c.2.2.2) (h : lcaP r left cs = some a) : 0 ≤ a.2.2.2 := by
  unfold lcaP at h
  cases he : eff r.1 with
  | none => rw [he] at h; cases h
  | some e =>
    rw [he] at h
    simp only at h
    by_cases hj : r.1 ∈ jzL ∧ (r.2 < 0 ∨ r.2 > left - 1)
    · rw [if_pos hj] at h; cases h
    rw [if_neg hj] at h
    by_cases hc : r.1 ∈ caL
    · rw [if_pos hc] at h
      cases hco : costOf cs r.2 with
      | none => rw [hco] at h; cases h
      | some c =>
        have hm : c ∈ cs := by
          unfold costOf at hco
          by_cases h : 0 ≤ r.2
          · rw [if_pos h] at hco; exact List.mem_of_getElem? hco
          · rw [if_neg h] at hco; exact nomatch hco
        have n0 := h0 c hm
        rw [hco] at h
        simp only at h
        by_cases hr : r.1 = "repeat" ∧ c.2.1 ≠ 0
        · rw [if_pos hr] at h; cases h
        rw [if_neg hr] at h
        by_cases hl : r.1 = "call"
        · rw [if_pos hl] at h
          cases h
          dsimp only
          omega
        · rw [if_neg hl] at h
          cases h
          dsimp only
          omega
    · rw [if_neg hc] at h
      cases h
      dsimp only
      omega
def lstF (c : List In) (cs : List Co) (most : Int) (i : Nat) (t : List (Option Pr)) : Option (List (Option Pr)) :=
  match c[i]? with
  | none => some t
  | some r => match atT t i with
    | none => some t
    | some p => match wayP r ((c.length : Int) - i) p cs with
      | none => none
      | some w => if withinP w most = true then lstB (behP r i) w t else none
def mdF (c : List In) (cs : List Co) (most : Int) (i : Nat) (t : List (Option Pr)) : Option (List (Option Pr)) :=
  match c[i]? with
  | none => some t
  | some r => match atT t i with
    | none => some t
    | some p => match lcaP r ((c.length : Int) - i) cs with
      | none => none
      | some a => if a.1 - p.1 > most ∨ a.2.2.1 + p.1 > 32 ∨ p.2 + a.2.2.2 > 4096 then none else mdB (behP r i) (p.1 + a.2.1, p.2 + a.2.2.2) t
/-- heights and steps of a table that is being made -/
def GoodT (t : List (Option Pr)) : Prop := ∀ p, some p ∈ t → p.1 ≤ 32 ∧ 0 ≤ p.2
theorem mdB_good {v : Pr} (hv : v.1 ≤ 32 ∧ 0 ≤ v.2) : ∀ (ps : List Int) (t t' : List (Option Pr)), GoodT t → mdB ps v t = some t' → GoodT t'
  | [], t, t', g, h => by
    unfold mdB at h
    cases h
    exact g
  | x :: ps, t, t', g, h => by
    have gs : GoodT (t.set x.toNat (some v)) := fun p m => by
      rcases List.mem_or_eq_of_mem_set m with m | e
      · exact g p m
      · cases e; exact hv
    unfold mdB at h
    cases e : atT t x with
    | none =>
      rw [e] at h
      exact mdB_good hv ps _ t' gs h
    | some p =>
      rw [e] at h
      simp only at h
      by_cases e1 : p.1 ≠ v.1
      · rw [if_pos e1] at h; cases h
      · rw [if_neg e1] at h
        by_cases e3 : p.2 < v.2
        · rw [if_pos e3] at h
          exact mdB_good hv ps _ t' gs h
        · rw [if_neg e3] at h
          exact mdB_good hv ps _ t' g h
/-- both turns do the same -/
theorem turn_eq {c : List In} {cs : List Co} {most : Int} {i : Nat} {t : List (Option Pr)} (hm : 0 ≤ most) (h0 : ∀ c, c ∈ cs → 0 ≤ c.1 ∧ 0 ≤ c.2.2.2) (g : GoodT t) : lstF c cs most i t = mdF c cs most i t ∧ ∀ t', mdF c cs most i t = some t' → GoodT t' := by
  unfold lstF mdF
  cases hc : c[i]? with
  | none => exact ⟨rfl, fun t' h => by cases h; exact g⟩
  | some r =>
    cases ht : atT t (i : Int) with
    | none => exact ⟨rfl, fun t' h => by cases h; exact g⟩
    | some p =>
      simp only
      obtain ⟨gp, gs⟩ := g p (List.mem_of_getElem? (atT_some ht))
      rcases way_lca r ((c.length : Int) - i) p cs (fun c m => (h0 c m).1) with ⟨e1, e2⟩ | ⟨a, w, e1, e2, q1, q2, q3, q4⟩
      · rw [e1, e2]
        exact ⟨rfl, fun t' h => by cases h⟩
      · rw [e1, e2]
        simp only
        have wl := way_le e2
        by_cases hw : a.1 - p.1 > most ∨ a.2.2.1 + p.1 > 32 ∨ p.2 + a.2.2.2 > 4096
        · rw [if_pos hw, if_neg (show ¬ withinP w most = true by unfold withinP; simp only [Bool.and_eq_true, decide_eq_true_eq]; omega)]
          exact ⟨rfl, fun t' h => by cases h⟩
        · rw [if_neg hw, if_pos (show withinP w most = true by unfold withinP; simp only [Bool.and_eq_true, decide_eq_true_eq]; omega)]
          have hs : 0 ≤ w.2.1 := by
            have := lca_pos (fun c m => (h0 c m).2) e1
            omega
          refine ⟨?_, fun t' h => mdB_good ⟨by dsimp only; omega, by dsimp only; omega⟩ _ _ t' g h⟩
          rw [lst_md hs, q1, q2]
/-- a making, turn by turn: the place where it stops, or the table -/
def runT (F : Nat → List (Option Pr) → Option (List (Option Pr))) (t0 : List (Option Pr)) : Nat → Except Nat (List (Option Pr))
  | 0 => .ok t0
  | i + 1 => match runT F t0 i with
    | .error k => .error k
    | .ok t => match F i t with
      | none => .error i
      | some t' => .ok t'
/-- the making of the program and that of the law -/
theorem run_eq {c : List In} {cs : List Co} {most : Int} {t0 : List (Option Pr)} (hm : 0 ≤ most) (h0 : ∀ c, c ∈ cs → 0 ≤ c.1 ∧ 0 ≤ c.2.2.2) (g : GoodT t0) : ∀ i, runT (lstF c cs most) t0 i = runT (mdF c cs most) t0 i ∧ ∀ t, runT (mdF c cs most) t0 i = .ok t → GoodT t
  | 0 => ⟨rfl, fun t h => by cases h; exact g⟩
  | i + 1 => by
    obtain ⟨e, k⟩ := run_eq hm h0 g i
    unfold runT
    rw [e]
    cases hr : runT (mdF c cs most) t0 i with
    | error n => exact ⟨rfl, fun t h => by cases h⟩
    | ok t =>
      obtain ⟨e2, k2⟩ := turn_eq (i := i) (c := c) hm h0 (k t hr)
      simp only
      rw [e2]
      refine ⟨rfl, fun t' h => ?_⟩
      cases hf : mdF c cs most i t with
      | none => rw [hf] at h; cases h
      | some t2 =>
        rw [hf] at h
        cases h
        exact k2 _ hf
/-- costs that ask no more, and change as much -/
def CostLe (a b : Co) : Prop := a.1 ≤ b.1 ∧ a.2.1 = b.2.1 ∧ a.2.2.1 ≤ b.2.2.1 ∧ a.2.2.2 ≤ b.2.2.2
def CostsLe (cs ds : List Co) : Prop := ∀ n d, costOf ds n = some d → ∃ c, costOf cs n = some c ∧ CostLe c d
theorem way_mono {r : In} {left : Int} {p q : Pr} {cs ds : List Co} {v : Co} (hc : CostsLe cs ds) (h1 : p.1 = q.1) (h2 : p.2 ≤ q.2) (h : wayP r left q ds = some v) : ∃ w, wayP r left p cs = some w ∧ w.1 = v.1 ∧ w.2.1 ≤ v.2.1 ∧ w.2.2.1 ≤ v.2.2.1 ∧ w.2.2.2 ≤ v.2.2.2 := by
  unfold wayP at h ⊢
  cases he : eff r.1 with
  | none => rw [he] at h; cases h
  | some e =>
    rw [he] at h
    simp only at h ⊢
    by_cases hj : r.1 ∈ jzL ∧ ¬ (0 ≤ r.2 ∧ r.2 < left)
    · rw [if_pos hj] at h; cases h
    rw [if_neg hj] at h ⊢
    by_cases hl : r.1 ∈ caL
    · rw [if_pos hl] at h ⊢
      cases hd : costOf ds r.2 with
      | none => rw [hd] at h; cases h
      | some d =>
        obtain ⟨c, hcc, l1, l2, l3, l4⟩ := hc r.2 d hd
        rw [hd] at h
        rw [hcc]
        simp only at h ⊢
        by_cases hr : r.1 = "repeat" ∧ d.2.1 ≠ 0
        · rw [if_pos hr] at h; cases h
        rw [if_neg hr] at h
        rw [if_neg (show ¬ (r.1 = "repeat" ∧ c.2.1 ≠ 0) by rw [l2]; exact hr)]
        by_cases hp : r.1 = "repeat"
        · rw [if_pos hp] at h ⊢
          cases h
          exact ⟨_, rfl, by dsimp only <;> omega, by dsimp only <;> omega, by dsimp only <;> omega, by dsimp only <;> omega⟩
        · rw [if_neg hp] at h ⊢
          cases h
          exact ⟨_, rfl, by dsimp only <;> omega, by dsimp only <;> omega, by dsimp only <;> omega, by dsimp only <;> omega⟩
    · rw [if_neg hl] at h ⊢
      cases h
      exact ⟨_, rfl, by dsimp only <;> omega, by dsimp only <;> omega, by dsimp only <;> omega, by dsimp only <;> omega⟩
/-- a table of which another is no less -/
def TabLe (s t : List (Option Pr)) : Prop := s.length = t.length ∧ ∀ x p, atT s x = some p → ∃ q, atT t x = some q ∧ p.1 = q.1 ∧ p.2 ≤ q.2
theorem atT_set {t : List (Option Pr)} {n : Nat} {v : Option Pr} {x : Int} {p : Pr} (h : atT (t.set n v) x = some p) : (x.toNat = n ∧ v = some p) ∨ (x.toNat ≠ n ∧ atT t x = some p) := by
  have e := atT_some h
  rw [List.getElem?_set] at e
  by_cases z : n = x.toNat
  · rw [if_pos z] at e
    by_cases l : n < t.length
    · rw [if_pos l] at e
      exact .inl ⟨z.symm, Option.some.inj e⟩
    · rw [if_neg l] at e; cases e
  · rw [if_neg z] at e
    refine .inr ⟨fun k => z k.symm, ?_⟩
    unfold atT
    rw [e]
    rfl
theorem lstB_le {w v : Co} (h1 : w.1 = v.1) (h2 : w.2.1 ≤ v.2.1) (h0 : 0 ≤ v.2.1) {t : List (Option Pr)} : ∀ (ps : List Int) (s : List (Option Pr)), TabLe s t → (∀ x, x ∈ ps → folP (atT t x) v = true) → ∃ s', lstB ps w s = some s' ∧ TabLe s' t
  | [], s, l, _ => ⟨s, rfl, l⟩
  | x :: ps, s, l, hf => by
    have hx := hf x List.mem_cons_self
    obtain ⟨q, hq, q1, q2⟩ : ∃ q, atT t x = some q ∧ q.1 = v.1 ∧ v.2.1 ≤ q.2 := by
      unfold folP at hx
      cases e : atT t x with
      | none => rw [e] at hx; cases hx
      | some q =>
        rw [e] at hx
        simp only [Bool.and_eq_true, Bool.not_eq_true', decide_eq_true_eq, decide_eq_false_iff_not] at hx
        exact ⟨q, rfl, hx.1, by omega⟩
    have go : ∀ m : Pr, m.1 = q.1 → m.2 ≤ q.2 → TabLe (s.set x.toNat (some m)) t := fun m m1 m2 => ⟨by rw [List.length_set]; exact l.1, fun y p hy => by
      rcases atT_set hy with ⟨e, z⟩ | ⟨_, z⟩
      · cases z
        refine ⟨q, ?_, m1, m2⟩
        unfold atT at hq ⊢
        rw [e]
        exact hq
      · exact l.2 y p z⟩
    unfold lstB
    cases e : atT s x with
    | none =>
      exact lstB_le h1 h2 h0 ps _ (go _ (by unfold raisedP; dsimp only; omega) (by unfold raisedP; dsimp only; omega)) fun y m => hf y (List.mem_cons_of_mem _ m)
    | some p =>
      obtain ⟨q', hq', p1, p2⟩ := l.2 x p e
      rw [hq] at hq'
      cases hq'
      simp only
      rw [if_neg (show ¬ p.1 ≠ w.1 by omega)]
      exact lstB_le h1 h2 h0 ps _ (go _ (by unfold raisedP; dsimp only; omega) (by unfold raisedP; dsimp only; omega)) fun y m => hf y (List.mem_cons_of_mem _ m)
theorem judF_at {c : List In} {ds : List Co} {t : List (Option Pr)} {i : Nat} {b a : Int × Int} (h : judF c ds t i b = some a) : b.1 ≤ a.1 ∧ b.2 ≤ a.2 ∧ ∀ r p, c[i]? = some r → atT t i = some p → ∃ v, wayP r ((c.length : Int) - i) p ds = some v ∧ (∀ x, x ∈ behP r i → folP (atT t x) v = true) ∧ v.2.2.1 ≤ a.1 ∧ v.2.2.2 ≤ a.2 := by
  unfold judF at h
  cases hc : c[i]? with
  | none => rw [hc] at h; cases h
  | some r =>
    rw [hc] at h
    cases ht : atT t (i : Int) with
    | none =>
      rw [ht] at h
      cases h
      exact ⟨Int.le_refl _, Int.le_refl _, fun _ _ _ k => by cases k⟩
    | some p =>
      rw [ht] at h
      simp only at h
      cases hw : wayP r ((c.length : Int) - i) p ds with
      | none => rw [hw] at h; cases h
      | some v =>
        rw [hw] at h
        simp only at h
        by_cases hf : ((behP r i).all fun x => folP (atT t x) v) = true
        · rw [if_pos hf] at h
          cases h
          refine ⟨by dsimp only; omega, by dsimp only; omega, fun r' p' e1 e2 => ?_⟩
          cases e1
          cases e2
          exact ⟨v, hw, fun x m => List.all_eq_true.mp hf x m, by dsimp only; omega, by dsimp only; omega⟩
        · rw [if_neg hf] at h; cases h
theorem jud_at {c : List In} {ds : List Co} {t : List (Option Pr)} {i : Nat} {r : In} {p : Pr} (hc : c[i]? = some r) (ht : atT t i = some p) : ∀ (j : Nat) (a : Int × Int), judL c ds t j = some a → i < j → ∃ v, wayP r ((c.length : Int) - i) p ds = some v ∧ (∀ x, x ∈ behP r i → folP (atT t x) v = true) ∧ v.2.2.1 ≤ a.1 ∧ v.2.2.2 ≤ a.2
  | 0, _, _, h => absurd h (Nat.not_lt_zero _)
  | j + 1, a, h, hi => by
    have h' : (judL c ds t j).bind (judF c ds t j) = some a := h
    cases hb : judL c ds t j with
    | none => rw [hb] at h'; cases h'
    | some b =>
      rw [hb] at h'
      obtain ⟨b1, b2, k⟩ := judF_at (show judF c ds t j b = some a from h')
      by_cases e : i < j
      · obtain ⟨v, v1, v2, v3, v4⟩ := jud_at hc ht j b hb e
        exact ⟨v, v1, v2, by omega, by omega⟩
      · obtain rfl : i = j := by omega
        exact k r p hc ht
theorem way_pos {r : In} {left : Int} {p : Pr} {cs : List Co} {w : Co} (h0 : ∀ c, c ∈ cs → 0 ≤ c.2.2.2) (h : wayP r left p cs = some w) : p.2 ≤ w.2.1 := by
  unfold wayP at h
  cases he : eff r.1 with
  | none => rw [he] at h; cases h
  | some e =>
    rw [he] at h
    simp only at h
    by_cases hj : r.1 ∈ jzL ∧ ¬ (0 ≤ r.2 ∧ r.2 < left)
    · rw [if_pos hj] at h; cases h
    rw [if_neg hj] at h
    by_cases hc : r.1 ∈ caL
    · rw [if_pos hc] at h
      cases hco : costOf cs r.2 with
      | none => rw [hco] at h; cases h
      | some c =>
        have hm : c ∈ cs := by
          unfold costOf at hco
          by_cases h : 0 ≤ r.2
          · rw [if_pos h] at hco; exact List.mem_of_getElem? hco
          · rw [if_neg h] at hco; exact nomatch hco
        have n0 := h0 c hm
        rw [hco] at h
        simp only at h
        by_cases hr : r.1 = "repeat" ∧ c.2.1 ≠ 0
        · rw [if_pos hr] at h; cases h
        rw [if_neg hr] at h
        by_cases hp : r.1 = "repeat"
        · rw [if_pos hp] at h
          cases h
          dsimp only
          omega
        · rw [if_neg hp] at h
          cases h
          dsimp only
          omega
    · rw [if_neg hc] at h
      cases h
      dsimp only
      omega
theorem beh_ne (r : In) (i : Int) : ∃ x, x ∈ behP r i := by
  unfold behP
  by_cases h : r.1 = "jump"
  · exact ⟨i + 1 + r.2, List.mem_append_right _ (by rw [if_pos (by rw [h]; decide)]; exact List.mem_singleton.mpr rfl)⟩
  · exact ⟨i + 1, List.mem_append_left _ (by rw [if_neg h]; exact List.mem_singleton.mpr rfl)⟩
theorem fol_at {it : Option Pr} {v : Co} (h : folP it v = true) : ∃ q, it = some q ∧ q.1 = v.1 ∧ v.2.1 ≤ q.2 := by
  unfold folP at h
  cases it with
  | none => cases h
  | some q =>
    simp only [Bool.and_eq_true, Bool.not_eq_true', decide_eq_true_eq, decide_eq_false_iff_not] at h
    exact ⟨q, rfl, h.1, by omega⟩
/-- at the end of a judged table stand no fewer steps than anywhere -/
theorem end_ge {c : List In} {ds : List Co} {t : List (Option Pr)} {a : Int × Int} (h0 : ∀ d, d ∈ ds → 0 ≤ d.2.2.2) (hj : judL c ds t c.length = some a) : ∀ (k i : Nat) (p : Pr), c.length - i ≤ k → i ≤ c.length → atT t i = some p → ∃ q, atT t (c.length : Int) = some q ∧ p.2 ≤ q.2
  | 0, i, p, hk, hi, hp => by
    obtain rfl : i = c.length := by omega
    exact ⟨p, hp, Int.le_refl _⟩
  | k + 1, i, p, hk, hi, hp => by
    by_cases e : i = c.length
    · subst e
      exact ⟨p, hp, Int.le_refl _⟩
    have hlt : i < c.length := by omega
    have hc : c[i]? = some c[i] := List.getElem?_eq_getElem hlt
    obtain ⟨v, v1, v2, _, _⟩ := jud_at hc hp _ a hj hlt
    obtain ⟨x, hx⟩ := beh_ne c[i] i
    obtain ⟨q, hq, _, q2⟩ := fol_at (v2 x hx)
    have xb := beh_in hlt v1 x hx
    have := way_pos h0 v1
    obtain ⟨q', hq', q3⟩ := end_ge h0 hj k x.toNat q (by omega) (by omega) (by rw [show ((x.toNat : Nat) : Int) = x by omega]; exact hq)
    exact ⟨q', hq', by omega⟩
/-- if a table is judged, the making with costs that ask no more does not stop, and stays below it -/
theorem run_le {c : List In} {cs ds : List Co} {most : Int} {t t0 : List (Option Pr)} {a : Int × Int} {z : Pr} (hc : CostsLe cs ds) (h0 : ∀ d, d ∈ ds → 0 ≤ d.2.2.2) (hg : ∀ p, some p ∈ t → 0 ≤ p.2) (hj : judL c ds t c.length = some a) (hm : a.1 ≤ most) (hk : a.2 ≤ 32) (hz : atT t (c.length : Int) = some z) (hz2 : z.2 ≤ 4096) (h : TabLe t0 t) :
    ∀ i, i ≤ c.length → ∃ s, runT (lstF c cs most) t0 i = .ok s ∧ TabLe s t
  | 0, _ => ⟨t0, rfl, h⟩
  | i + 1, hi => by
    obtain ⟨s, hs, ls⟩ := run_le hc h0 hg hj hm hk hz hz2 h i (by omega)
    have hlt : i < c.length := by omega
    have hci : c[i]? = some c[i] := List.getElem?_eq_getElem hlt
    obtain ⟨s', hs', ls'⟩ : ∃ s', lstF c cs most i s = some s' ∧ TabLe s' t := by
      unfold lstF
      rw [hci]
      cases hp : atT s (i : Int) with
      | none => exact ⟨s, rfl, ls⟩
      | some p =>
        obtain ⟨q, hq, p1, p2⟩ := ls.2 i p hp
        obtain ⟨v, v1, v2, v3, v4⟩ := jud_at hci hq _ a hj hlt
        obtain ⟨w, w0, w1, w2, w3, w4⟩ := way_mono hc p1 p2 v1
        have q0 := hg q (List.mem_of_getElem? (atT_some hq))
        have vq := way_pos h0 v1
        have v4096 : v.2.1 ≤ 4096 := by
          obtain ⟨x, hx⟩ := beh_ne c[i] i
          obtain ⟨y, hy, _, y2⟩ := fol_at (v2 x hx)
          have xb := beh_in hlt v1 x hx
          obtain ⟨z', hz', z2⟩ := end_ge h0 hj c.length x.toNat y (by omega) (by omega) (by rw [show ((x.toNat : Nat) : Int) = x by omega]; exact hy)
          rw [hz] at hz'
          cases hz'
          omega
        simp only
        rw [w0]
        simp only
        rw [if_pos (show withinP w most = true by unfold withinP; simp only [Bool.and_eq_true, decide_eq_true_eq]; omega)]
        exact lstB_le w1 w2 (by omega) _ s ls v2
    refine ⟨s', ?_, ls'⟩
    unfold runT
    rw [hs]
    simp only
    rw [hs']
theorem TabLe.refl (t : List (Option Pr)) : TabLe t t := ⟨rfl, fun x p h => ⟨p, h, rfl, Int.le_refl _⟩⟩
theorem TabLe.trans {s t u : List (Option Pr)} (h : TabLe s t) (k : TabLe t u) : TabLe s u := ⟨h.1.trans k.1, fun x p e => by
  obtain ⟨q, e2, a1, a2⟩ := h.2 x p e
  obtain ⟨r, e3, b1, b2⟩ := k.2 x q e2
  exact ⟨r, e3, by omega, by omega⟩⟩
theorem fol_le {s t : List (Option Pr)} {x : Int} {w : Co} (h : TabLe s t) (k : folP (atT s x) w = true) : folP (atT t x) w = true := by
  obtain ⟨p, e, k1, k2⟩ := fol_at k
  obtain ⟨q, e2, a1, a2⟩ := h.2 x p e
  rw [e2]
  unfold folP
  simp only [Bool.and_eq_true, Bool.not_eq_true', decide_eq_true_eq, decide_eq_false_iff_not]
  omega
theorem atT_new {t : List (Option Pr)} {n : Nat} {v : Option Pr} (h : n < t.length) : atT (t.set n v) (n : Int) = v := by
  unfold atT
  rw [show ((n : Nat) : Int).toNat = n from rfl, List.getElem?_set, if_pos rfl, if_pos h]
  rfl
theorem atT_old {t : List (Option Pr)} {n : Nat} {v : Option Pr} {y : Int} (h : y.toNat ≠ n) : atT (t.set n v) y = atT t y := by
  unfold atT
  rw [List.getElem?_set, if_neg fun e => h e.symm]
/-- what a turn does at the places behind -/
theorem lstB_does {w : Co} {i : Nat} : ∀ (ps : List Int) (t t' : List (Option Pr)), (∀ x, x ∈ ps → (i : Int) < x ∧ x < t.length) → lstB ps w t = some t' → TabLe t t' ∧ (∀ y : Nat, y ≤ i → atT t' (y : Int) = atT t (y : Int)) ∧ ∀ x, x ∈ ps → folP (atT t' x) w = true
  | [], t, t', _, h => by
    unfold lstB at h
    cases h
    exact ⟨.refl t, fun _ _ => rfl, fun x m => by cases m⟩
  | x :: ps, t, t', hp, h => by
    obtain ⟨x0, x1⟩ := hp x List.mem_cons_self
    have hx : x.toNat < t.length := by omega
    have ex : ((x.toNat : Nat) : Int) = x := by omega
    have go : ∀ m : Pr, m.1 = w.1 → w.2.1 ≤ m.2 → TabLe t (t.set x.toNat (some m)) → lstB ps w (t.set x.toNat (some m)) = some t' → TabLe t t' ∧ (∀ y : Nat, y ≤ i → atT t' (y : Int) = atT t (y : Int)) ∧ ∀ y, y ∈ x :: ps → folP (atT t' y) w = true := fun m m1 m2 l e => by
      obtain ⟨a, b, c⟩ := lstB_does ps _ t' (fun y hy => by rw [List.length_set]; exact hp y (List.mem_cons_of_mem _ hy)) e
      refine ⟨l.trans a, fun y hy => ?_, fun y hy => ?_⟩
      · rw [b y hy, atT_old (by omega)]
      · rcases List.mem_cons.mp hy with rfl | hy
        · refine fol_le a ?_
          have e2 : atT (t.set y.toNat (some m)) y = some m := by
            have := atT_new (v := some m) hx
            rwa [ex] at this
          rw [e2]
          unfold folP
          simp only [Bool.and_eq_true, Bool.not_eq_true', decide_eq_true_eq, decide_eq_false_iff_not]
          omega
        · exact c y hy
    unfold lstB at h
    cases e : atT t x with
    | none =>
      rw [e] at h
      refine go _ rfl (by unfold raisedP; dsimp only; omega) ⟨by rw [List.length_set], fun y p hy => ?_⟩ h
      refine ⟨p, ?_, rfl, Int.le_refl _⟩
      rw [atT_old (fun z => ?_)]
      · exact hy
      · unfold atT at e hy
        rw [z, e] at hy
        cases hy
    | some p =>
      rw [e] at h
      simp only at h
      by_cases e1 : p.1 ≠ w.1
      · rw [if_pos e1] at h; cases h
      · rw [if_neg e1] at h
        refine go _ rfl (by unfold raisedP; dsimp only; omega) ⟨by rw [List.length_set], fun y q hy => ?_⟩ h
        by_cases z : y.toNat = x.toNat
        · have eq : q = p := by
            unfold atT at e hy
            rw [z, e] at hy
            exact (Option.some.inj hy).symm
          have e4 : p.1 = w.1 := by simpa using e1
          rw [eq]
          refine ⟨raisedP (some p) w, ?_, by unfold raisedP; dsimp only; omega, by unfold raisedP; dsimp only; omega⟩
          unfold atT
          rw [List.getElem?_set, if_pos z.symm, if_pos hx]
          rfl
        · exact ⟨q, by rw [atT_old z]; exact hy, rfl, Int.le_refl _⟩
/-- a table before turn i -/
structure Made (c : List In) (cs : List Co) (most : Int) (i : Nat) (t : List (Option Pr)) : Prop where
  len : t.length = c.length + 1
  did : ∀ (j : Nat) (r : In) (p : Pr), j < i → c[j]? = some r → atT t (j : Int) = some p → ∃ w, wayP r ((c.length : Int) - j) p cs = some w ∧ withinP w most = true ∧ ∀ x, x ∈ behP r j → folP (atT t x) w = true
  one : ∃ (x : Nat) (p : Pr), i ≤ x ∧ x ≤ c.length ∧ atT t (x : Int) = some p
theorem made_run {c : List In} {cs : List Co} {most : Int} {t0 : List (Option Pr)} (h0 : Made c cs most 0 t0) : ∀ (i : Nat) (t : List (Option Pr)), i ≤ c.length → runT (lstF c cs most) t0 i = .ok t → Made c cs most i t ∧ TabLe t0 t
  | 0, t, _, h => by
    unfold runT at h
    cases h
    exact ⟨h0, .refl _⟩
  | i + 1, t, hi, h => by
    unfold runT at h
    cases hs : runT (lstF c cs most) t0 i with
    | error k => rw [hs] at h; cases h
    | ok s =>
      rw [hs] at h
      obtain ⟨M, l⟩ := made_run h0 i s (by omega) hs
      simp only at h
      cases ht : lstF c cs most i s with
      | none => rw [ht] at h; cases h
      | some t2 =>
        rw [ht] at h
        cases h
        have hlt : i < c.length := by omega
        have hci : c[i]? = some c[i] := List.getElem?_eq_getElem hlt
        generalize c[i] = r at hci
        unfold lstF at ht
        rw [hci] at ht
        cases hp : atT s (i : Int) with
        | none =>
          rw [hp] at ht
          cases ht
          refine ⟨⟨M.len, fun j r' p hj hc hjp => ?_, ?_⟩, l⟩
          · by_cases e : j = i
            · rw [e, hp] at hjp; cases hjp
            · exact M.did j r' p (by omega) hc hjp
          · obtain ⟨x, p, x0, x1, hx⟩ := M.one
            refine ⟨x, p, ?_, x1, hx⟩
            by_cases e : x = i
            · rw [e, hp] at hx; cases hx
            · omega
        | some p =>
          rw [hp] at ht
          simp only at ht
          cases hw : wayP r ((c.length : Int) - i) p cs with
          | none => rw [hw] at ht; cases ht
          | some w =>
            rw [hw] at ht
            simp only at ht
            by_cases hin : withinP w most = true
            · rw [if_pos hin] at ht
              obtain ⟨a, b, f⟩ := lstB_does (i := i) _ s _ (fun x m => by have := beh_in hlt hw x m; have := M.len; omega) ht
              refine ⟨⟨a.1.symm.trans M.len, fun j r' p' hj hc hjp => ?_, ?_⟩, l.trans a⟩
              · rw [b j (by omega)] at hjp
                by_cases e : j = i
                · subst e
                  rw [hci] at hc
                  rw [hp] at hjp
                  cases hc
                  cases hjp
                  exact ⟨w, hw, hin, f⟩
                · obtain ⟨w', k1, k2, k3⟩ := M.did j r' p' (by omega) hc hjp
                  exact ⟨w', k1, k2, fun x m => fol_le a (k3 x m)⟩
              · obtain ⟨x, hx⟩ := beh_ne r i
                obtain ⟨q, hq, _, _⟩ := fol_at (f x hx)
                have xb := beh_in hlt hw x hx
                exact ⟨x.toNat, q, by omega, by omega, by rw [show ((x.toNat : Nat) : Int) = x by omega]; exact hq⟩
            · rw [if_neg hin] at ht; cases ht
/-- a made table is judged, turn by turn -/
theorem made_jud {c : List In} {cs : List Co} {most : Int} {t : List (Option Pr)} (hm : 0 ≤ most) (M : Made c cs most c.length t) : ∀ j, j ≤ c.length → ∃ a, judL c cs t j = some a ∧ 0 ≤ a.1 ∧ a.1 ≤ most ∧ 0 ≤ a.2 ∧ a.2 ≤ 32
  | 0, _ => ⟨(0, 0), rfl, by omega, hm, by omega, by omega⟩
  | j + 1, hj => by
    obtain ⟨b, hb, b1, b2, b3, b4⟩ := made_jud hm M j (by omega)
    have hlt : j < c.length := by omega
    have hc : c[j]? = some c[j] := List.getElem?_eq_getElem hlt
    have e : judL c cs t (j + 1) = judF c cs t j b := by
      show (judL c cs t j).bind _ = _
      rw [hb]
      rfl
    rw [e]
    unfold judF
    rw [hc]
    cases hp : atT t (j : Int) with
    | none => exact ⟨b, rfl, b1, b2, b3, b4⟩
    | some p =>
      obtain ⟨w, w1, w2, w3⟩ := M.did j c[j] p hlt hc hp
      simp only
      rw [w1]
      simp only
      rw [if_pos (List.all_eq_true.mpr w3)]
      unfold withinP at w2
      simp only [Bool.and_eq_true, decide_eq_true_eq] at w2
      exact ⟨_, rfl, by dsimp only; omega, by dsimp only; omega, by dsimp only; omega, by dsimp only; omega⟩
def LowT (t : List (Option Pr)) : Prop := ∀ p, some p ∈ t → p.2 ≤ 4096
theorem lstB_low {w : Co} (hw : w.2.1 ≤ 4096) : ∀ (ps : List Int) (t t' : List (Option Pr)), LowT t → lstB ps w t = some t' → LowT t'
  | [], t, t', g, h => by
    unfold lstB at h
    cases h
    exact g
  | x :: ps, t, t', g, h => by
    have gs : ∀ m : Pr, m.2 ≤ 4096 → LowT (t.set x.toNat (some m)) := fun v hv p m => by
      rcases List.mem_or_eq_of_mem_set m with m | e
      · exact g p m
      · cases e; exact hv
    unfold lstB at h
    cases e : atT t x with
    | none =>
      rw [e] at h
      exact lstB_low hw ps _ t' (gs _ (by unfold raisedP; dsimp only; omega)) h
    | some p =>
      rw [e] at h
      have gp := g p (List.mem_of_getElem? (atT_some e))
      simp only at h
      by_cases e1 : p.1 ≠ w.1
      · rw [if_pos e1] at h; cases h
      · rw [if_neg e1] at h
        exact lstB_low hw ps _ t' (gs _ (by unfold raisedP; dsimp only; omega)) h
theorem run_low {c : List In} {cs : List Co} {most : Int} {t0 : List (Option Pr)} (h0 : LowT t0) : ∀ (i : Nat) (t : List (Option Pr)), runT (lstF c cs most) t0 i = .ok t → LowT t
  | 0, t, h => by
    unfold runT at h
    cases h
    exact h0
  | i + 1, t, h => by
    unfold runT at h
    cases hs : runT (lstF c cs most) t0 i with
    | error k => rw [hs] at h; cases h
    | ok s =>
      rw [hs] at h
      have l := run_low h0 i s hs
      simp only at h
      cases ht : lstF c cs most i s with
      | none => rw [ht] at h; cases h
      | some t2 =>
        rw [ht] at h
        cases h
        unfold lstF at ht
        cases hc : c[i]? with
        | none => rw [hc] at ht; cases ht; exact l
        | some r =>
          rw [hc] at ht
          cases hp : atT s (i : Int) with
          | none => rw [hp] at ht; cases ht; exact l
          | some p =>
            rw [hp] at ht
            simp only at ht
            cases hw : wayP r ((c.length : Int) - i) p cs with
            | none => rw [hw] at ht; cases ht
            | some w =>
              rw [hw] at ht
              simp only at ht
              by_cases hin : withinP w most = true
              · rw [if_pos hin] at ht
                refine lstB_low ?_ _ s _ l ht
                unfold withinP at hin
                simp only [Bool.and_eq_true, decide_eq_true_eq] at hin
                omega
              · rw [if_neg hin] at ht; cases ht
/-- the table at the beginning -/
def tab0 (n : Nat) : List (Option Pr) := some (0, 0) :: List.replicate n none
theorem tab0_mem {n : Nat} {p : Pr} (h : some p ∈ tab0 n) : p = (0, 0) := by
  unfold tab0 at h
  rcases List.mem_cons.mp h with h | h
  · exact Option.some.inj h
  · exact absurd (List.eq_of_mem_replicate h) (by simp)
theorem made0 (c : List In) (cs : List Co) (most : Int) : Made c cs most 0 (tab0 c.length) := ⟨by simp [tab0], fun j r p hj => absurd hj (Nat.not_lt_zero _), ⟨0, (0, 0), Nat.le_refl _, Nat.zero_le _, rfl⟩⟩
/-- a made table is judged -/
theorem made_judP {c : List In} {cs : List Co} {most : Int} {t : List (Option Pr)} (hm : 0 ≤ most) (hm2 : most ≤ 32) (h0 : ∀ c, c ∈ cs → 0 ≤ c.1 ∧ 0 ≤ c.2.2.2) (h : runT (lstF c cs most) (tab0 c.length) c.length = .ok t) : ∃ co, judP c cs t = some co ∧ 0 ≤ co.1 ∧ co.1 ≤ most ∧ 0 ≤ co.2.2.1 ∧ 0 ≤ co.2.2.2 ∧ co.2.2.2 ≤ 4096 := by
  have g0 : GoodT (tab0 c.length) := fun p m => by rw [tab0_mem m]; decide
  have l0 : LowT (tab0 c.length) := fun p m => by rw [tab0_mem m]; decide
  obtain ⟨M, l⟩ := made_run (made0 c cs most) c.length t (Nat.le_refl _) h
  have low := run_low l0 _ t h
  obtain ⟨e, k⟩ := run_eq (c := c) hm h0 g0 c.length
  have good := k t (by rw [← e]; exact h)
  obtain ⟨a, ha, a1, a2, a3, a4⟩ := made_jud hm M c.length (Nat.le_refl _)
  obtain ⟨x, z, x0, x1, hz⟩ := M.one
  obtain rfl : x = c.length := by omega
  obtain ⟨q, hq, q1, _⟩ := l.2 0 (0, 0) rfl
  have len := M.len
  have en : atT t ((t.length : Int) - 1) = some z := by
    rw [show (t.length : Int) - 1 = (c.length : Int) by omega]
    exact hz
  have hb : begP c.length t = true := by
    unfold begP
    rw [hq, en, decide_eq_true len]
    simp only [Option.isSome_some, Bool.true_and, Option.getD_some, Bool.and_eq_true, decide_eq_true_eq]
    refine ⟨q1.symm, List.all_eq_true.mpr fun it m => ?_⟩
    cases it with
    | none => rfl
    | some p => exact decide_eq_true (good p m).2
  have zl := low z (List.mem_of_getElem? (atT_some hz))
  have zg := (good z (List.mem_of_getElem? (atT_some hz))).2
  refine ⟨(a.1, z.1, a.2, z.2), ?_, a1, a2, a3, zg, zl⟩
  unfold judP
  rw [if_pos hb, ha]
  simp only [en, Option.getD_some]
  rw [if_pos ⟨by omega, by omega, zl⟩]
theorem jud_le {c : List In} {cs ds : List Co} {s t : List (Option Pr)} (hc : CostsLe cs ds) (l : TabLe s t) : ∀ (j : Nat) (a b : Int × Int), judL c cs s j = some a → judL c ds t j = some b → a.1 ≤ b.1 ∧ a.2 ≤ b.2
  | 0, a, b, h1, h2 => by
    unfold judL at h1 h2
    cases h1
    cases h2
    exact ⟨Int.le_refl _, Int.le_refl _⟩
  | j + 1, a, b, h1, h2 => by
    have h1' : (judL c cs s j).bind (judF c cs s j) = some a := h1
    have h2' : (judL c ds t j).bind (judF c ds t j) = some b := h2
    cases e1 : judL c cs s j with
    | none => rw [e1] at h1'; cases h1'
    | some a0 =>
      cases e2 : judL c ds t j with
      | none => rw [e2] at h2'; cases h2'
      | some b0 =>
        rw [e1] at h1'
        rw [e2] at h2'
        obtain ⟨i1, i2⟩ := jud_le hc l j a0 b0 e1 e2
        obtain ⟨k1, k2, k3⟩ := judF_at (show judF c ds t j b0 = some b from h2')
        have f : judF c cs s j a0 = some a := h1'
        unfold judF at f
        cases hcj : c[j]? with
        | none => rw [hcj] at f; cases f
        | some r =>
          rw [hcj] at f
          cases hp : atT s (j : Int) with
          | none =>
            rw [hp] at f
            cases f
            exact ⟨by omega, by omega⟩
          | some p =>
            obtain ⟨q, hq, p1, p2⟩ := l.2 j p hp
            obtain ⟨v, v1, v2, v3, v4⟩ := k3 r q hcj hq
            obtain ⟨w, w0, w1, w2, w3, w4⟩ := way_mono hc p1 p2 v1
            rw [hp] at f
            simp only at f
            rw [w0] at f
            simp only at f
            by_cases hf : ((behP r j).all fun x => folP (atT s x) w) = true
            · rw [if_pos hf] at f
              cases f
              exact ⟨by dsimp only; omega, by dsimp only; omega⟩
            · rw [if_neg hf] at f; cases f
/-- what is judged, taken apart -/
theorem judP_at {c : List In} {cs : List Co} {t : List (Option Pr)} {co : Co} (h : judP c cs t = some co) : begP c.length t = true ∧ ∃ a z, judL c cs t c.length = some a ∧ atT t (c.length : Int) = some z ∧ co = (a.1, z.1, a.2, z.2) ∧ a.1 ≤ 32 ∧ a.2 ≤ 32 ∧ z.2 ≤ 4096 := by
  unfold judP at h
  by_cases hb : begP c.length t = true
  · rw [if_pos hb] at h
    refine ⟨hb, ?_⟩
    cases ha : judL c cs t c.length with
    | none => rw [ha] at h; cases h
    | some a =>
      rw [ha] at h
      simp only at h
      have hb' := hb
      unfold begP at hb'
      simp only [Bool.and_eq_true, decide_eq_true_eq] at hb'
      obtain ⟨len, _, sN, _⟩ := hb'
      rw [show (t.length : Int) - 1 = (c.length : Int) by omega] at h sN
      cases hz : atT t (c.length : Int) with
      | none => rw [hz] at sN; cases sN
      | some z =>
        rw [hz] at h
        simp only [Option.getD_some] at h
        by_cases k : a.1 ≤ 32 ∧ a.2 ≤ 32 ∧ z.2 ≤ 4096
        · rw [if_pos k] at h
          cases h
          exact ⟨a, z, rfl, rfl, rfl, k.1, k.2.1, k.2.2⟩
        · rw [if_neg k] at h; cases h
  · rw [if_neg hb] at h; cases h
/-- a making below a judged table: it does not stop, and costs no more -/
theorem made_le {c : List In} {cs ds : List Co} {most : Int} {t : List (Option Pr)} {co : Co} (hc : CostsLe cs ds) (hcs : ∀ c, c ∈ cs → 0 ≤ c.1 ∧ 0 ≤ c.2.2.2) (hds : ∀ d, d ∈ ds → 0 ≤ d.2.2.2) (hm : 0 ≤ most) (hm2 : most ≤ 32) (h : judP c ds t = some co) (hmost : co.1 ≤ most) :
    ∃ s c0, runT (lstF c cs most) (tab0 c.length) c.length = .ok s ∧ TabLe s t ∧ judP c cs s = some c0 ∧ CostLe c0 co := by
  obtain ⟨hb, a, z, ha, hz, rfl, k1, k2, k3⟩ := judP_at h
  unfold begP at hb
  simp only [Bool.and_eq_true, decide_eq_true_eq] at hb
  obtain ⟨len, s0, _, z0, gd⟩ := hb
  have hg : ∀ p, some p ∈ t → 0 ≤ p.2 := fun p m => of_decide_eq_true (List.all_eq_true.mp gd (some p) m)
  have l0 : TabLe (tab0 c.length) t := ⟨by simp [tab0, len], fun x p hx => by
    have m := atT_some hx
    have e := tab0_mem (List.mem_of_getElem? m)
    have x0 : x.toNat = 0 := by
      cases hn : x.toNat with
      | zero => rfl
      | succ n =>
        rw [hn] at m
        unfold tab0 at m
        rw [List.getElem?_cons_succ] at m
        exact absurd (List.eq_of_mem_replicate (List.mem_of_getElem? m)) (by simp)
    cases hq : atT t 0 with
    | none => rw [hq] at s0; cases s0
    | some q =>
      rw [hq] at z0
      simp only [Option.getD_some] at z0
      refine ⟨q, ?_, by rw [e]; exact z0.symm, by rw [e]; exact hg q (List.mem_of_getElem? (atT_some hq))⟩
      unfold atT at hq ⊢
      rw [x0]
      exact hq⟩
  obtain ⟨s, hs, ls⟩ := run_le hc hds hg ha hmost k2 hz k3 l0 c.length (Nat.le_refl _)
  obtain ⟨c0, hc0, _, _, _, _, _⟩ := made_judP hm hm2 hcs hs
  obtain ⟨_, a', z', ha', hz', rfl, _, _, _⟩ := judP_at hc0
  obtain ⟨j1, j2⟩ := jud_le hc ls _ a' a ha' ha
  obtain ⟨z2, hz2, q1, q2⟩ := ls.2 _ _ hz'
  rw [hz] at hz2
  cases hz2
  exact ⟨s, _, hs, ls, hc0, j1, q1, j2, q2⟩
/-- each height but the first was handed on -/
def Heir (c : List In) (cs : List Co) (i : Nat) (t : List (Option Pr)) : Prop := ∀ (x : Nat) (p : Pr), atT t (x : Int) = some p → p.1 ≤ 0 ∨ ∃ (j : Nat) (r : In) (q : Pr) (w : Co), j < i ∧ j < x ∧ c[j]? = some r ∧ atT t (j : Int) = some q ∧ wayP r ((c.length : Int) - j) q cs = some w ∧ p.1 = w.1
theorem lstB_only {w : Co} : ∀ (ps : List Int) (t t' : List (Option Pr)) (x : Nat) (p : Pr), lstB ps w t = some t' → atT t' (x : Int) = some p → atT t (x : Int) = some p ∨ (p.1 = w.1 ∧ ∃ y, y ∈ ps ∧ y.toNat = x)
  | [], t, t', x, p, h, hp => by
    unfold lstB at h
    cases h
    exact .inl hp
  | y :: ps, t, t', x, p, h, hp => by
    have go : ∀ m : Pr, m.1 = w.1 → lstB ps w (t.set y.toNat (some m)) = some t' → atT t (x : Int) = some p ∨ (p.1 = w.1 ∧ ∃ z, z ∈ y :: ps ∧ z.toNat = x) := fun m hm e => by
      rcases lstB_only ps _ t' x p e hp with k | ⟨k1, z, k2, k3⟩
      · rcases atT_set k with ⟨e1, e2⟩ | ⟨_, e2⟩
        · cases e2
          exact .inr ⟨hm, y, List.mem_cons_self, by omega⟩
        · exact .inl e2
      · exact .inr ⟨k1, z, List.mem_cons_of_mem _ k2, k3⟩
    unfold lstB at h
    cases e : atT t y with
    | none =>
      rw [e] at h
      exact go _ rfl h
    | some q =>
      rw [e] at h
      simp only at h
      by_cases e1 : q.1 ≠ w.1
      · rw [if_pos e1] at h; cases h
      · rw [if_neg e1] at h
        exact go _ rfl h
theorem heir_run {c : List In} {cs : List Co} {most : Int} {t0 : List (Option Pr)} (hl : t0.length = c.length + 1) (h0 : Heir c cs 0 t0) : ∀ (i : Nat) (t : List (Option Pr)), i ≤ c.length → runT (lstF c cs most) t0 i = .ok t → Heir c cs i t ∧ t.length = c.length + 1
  | 0, t, _, h => by
    unfold runT at h
    cases h
    exact ⟨h0, hl⟩
  | i + 1, t, hi, h => by
    unfold runT at h
    cases hs : runT (lstF c cs most) t0 i with
    | error k => rw [hs] at h; cases h
    | ok s =>
      rw [hs] at h
      obtain ⟨M, l⟩ := heir_run hl h0 i s (by omega) hs
      have M1 : Heir c cs (i + 1) s := fun x p hx => (M x p hx).imp id fun ⟨j, r, q, w, a, b⟩ => ⟨j, r, q, w, by omega, b⟩
      simp only at h
      cases ht : lstF c cs most i s with
      | none => rw [ht] at h; cases h
      | some t2 =>
        rw [ht] at h
        cases h
        have hlt : i < c.length := by omega
        have hci : c[i]? = some c[i] := List.getElem?_eq_getElem hlt
        generalize c[i] = r at hci
        unfold lstF at ht
        rw [hci] at ht
        cases hp : atT s (i : Int) with
        | none =>
          rw [hp] at ht
          cases ht
          exact ⟨M1, l⟩
        | some p =>
          rw [hp] at ht
          simp only at ht
          cases hw : wayP r ((c.length : Int) - i) p cs with
          | none => rw [hw] at ht; cases ht
          | some w =>
            rw [hw] at ht
            simp only at ht
            by_cases hin : withinP w most = true
            · rw [if_pos hin] at ht
              obtain ⟨a, b, f⟩ := lstB_does (i := i) _ s _ (fun x m => by have := beh_in hlt hw x m; omega) ht
              refine ⟨fun x q hx => ?_, a.1.symm.trans l⟩
              rcases lstB_only _ s _ x q ht hx with k | ⟨k1, y, k2, k3⟩
              · rcases M x q k with z | ⟨j, r', q', w', c1, c2, c3, c4, c5, c6⟩
                · exact .inl z
                · exact .inr ⟨j, r', q', w', by omega, c2, c3, by rw [b j (by omega)]; exact c4, c5, c6⟩
              · have yb := beh_in hlt hw y k2
                exact .inr ⟨i, r, p, w, by omega, by omega, hci, by rw [b i (Nat.le_refl _)]; exact hp, hw, k1⟩
            · rw [if_neg hin] at ht; cases ht
/-- the law's turn of judging -/
def ljF (c : List In) (cs : List Co) (t : List (Option Pr)) (i : Nat) (acc : Int × Int) : Option (Int × Int) :=
  match c[i]? with
  | none => none
  | some r => match atT t i with
    | none => some acc
    | some p => match lcaP r ((c.length : Int) - i) cs with
      | none => none
      | some a => if ((behP r i).all fun x => folP (atT t x) (p.1 + a.2.1, p.2 + a.2.2.2, 0, 0)) = true then some (max acc.1 (a.1 - p.1), max acc.2 (a.2.2.1 + p.1)) else none
def ljL (c : List In) (cs : List Co) (t : List (Option Pr)) : Nat → Option (Int × Int)
  | 0 => some (0, 0)
  | i + 1 => (ljL c cs t i).bind (ljF c cs t i)
theorem fol_same {it : Option Pr} {w v : Co} (h1 : w.1 = v.1) (h2 : w.2.1 = v.2.1) : folP it w = folP it v := by
  unfold folP
  rw [h1, h2]
/-- on a made table the law's judging and the program's are the same, turn by turn -/
theorem lj_eq {c : List In} {cs : List Co} {t : List (Option Pr)} {m : Nat} (h0 : ∀ c, c ∈ cs → 0 ≤ c.1) (hH : Heir c cs m t) : ∀ (j : Nat), ljL c cs t j = judL c cs t j ∧ ∀ a, judL c cs t j = some a → 0 ≤ a.1 ∧ 0 ≤ a.2
  | 0 => ⟨rfl, fun a h => by unfold judL at h; cases h; exact ⟨Int.le_refl _, Int.le_refl _⟩⟩
  | j + 1 => by
    obtain ⟨e, k⟩ := lj_eq h0 hH j
    have e1 : ljL c cs t (j + 1) = (ljL c cs t j).bind (ljF c cs t j) := rfl
    have e2 : judL c cs t (j + 1) = (judL c cs t j).bind (judF c cs t j) := rfl
    rw [e1, e2, e]
    cases hb : judL c cs t j with
    | none => exact ⟨rfl, fun a h => by cases h⟩
    | some b =>
      obtain ⟨b1, b2⟩ := k b hb
      have main : ljF c cs t j b = judF c cs t j b := by
        unfold ljF judF
        cases hc : c[j]? with
        | none => rfl
        | some r =>
          cases hp : atT t (j : Int) with
          | none => rfl
          | some p =>
            simp only
            rcases way_lca r ((c.length : Int) - j) p cs h0 with ⟨z1, z2⟩ | ⟨a, w, z1, z2, q1, q2, q3, q4⟩
            · rw [z1, z2]
            · rw [z1, z2]
              simp only
              have ef : ((behP r j).all fun x => folP (atT t x) (p.1 + a.2.1, p.2 + a.2.2.2, 0, 0)) = ((behP r j).all fun x => folP (atT t x) w) := by
                congr 1
                funext x
                exact fol_same q1.symm q2.symm
              rw [ef]
              have hk : p.1 ≤ b.2 := by
                rcases hH j p hp with z | ⟨i, r', q, v, _, c2, c3, c4, c5, c6⟩
                · omega
                · obtain ⟨v', v1, _, _, v4⟩ := jud_at c3 c4 j b hb c2
                  rw [c5] at v1
                  cases v1
                  have := way_le c5
                  omega
              by_cases hf : ((behP r j).all fun x => folP (atT t x) w) = true
              · rw [if_pos hf, if_pos hf]
                have m1 : max b.1 (a.1 - p.1) = max b.1 w.2.2.1 := by omega
                have m2 : max b.2 (a.2.2.1 + p.1) = max b.2 w.2.2.2 := by omega
                rw [m1, m2]
              · rw [if_neg hf, if_neg hf]
      refine ⟨main, fun a h => ?_⟩
      obtain ⟨k1, k2, _⟩ := judF_at (show judF c cs t j b = some a from h)
      exact ⟨by omega, by omega⟩
end

section
variable {P : Program} {w : World} {K : PySem.W.Frag} {mg : Str → Option Value} {base : Heap}
/-- a made table: the law's judging tells what the program's does -/
theorem made_lj {c : List In} {cs : List Co} {most : Int} {t : List (Option Pr)} (hm : 0 ≤ most) (hm2 : most ≤ 32) (h0 : ∀ c, c ∈ cs → 0 ≤ c.1 ∧ 0 ≤ c.2.2.2) (h : runT (lstF c cs most) (tab0 c.length) c.length = .ok t) :
    begP c.length t = true ∧ ∃ a z, ljL c cs t c.length = some a ∧ atT t (c.length : Int) = some z ∧ judP c cs t = some (a.1, z.1, a.2, z.2) ∧ a.1 ≤ 32 ∧ a.2 ≤ 32 ∧ z.2 ≤ 4096 := by
  obtain ⟨co, hc, _⟩ := made_judP hm hm2 h0 h
  obtain ⟨hb, a, z, ha, hz, rfl, k1, k2, k3⟩ := judP_at hc
  have hH := (heir_run (c := c) (cs := cs) (most := most) (t0 := tab0 c.length) (by simp [tab0]) (fun x p hx => .inl (by rw [tab0_mem (List.mem_of_getElem? (atT_some hx))]; decide)) c.length t (Nat.le_refl _) h).1
  exact ⟨hb, a, z, by rw [(lj_eq (fun c m => (h0 c m).1) hH c.length).1, ha], hz, hc, k1, k2, k3⟩
abbrev Tab := List (Option Pr)
/-- what is known of costs -/
def GoodC (cs : List Co) : Prop := ∀ c, c ∈ cs → 0 ≤ c.1 ∧ 0 ≤ c.2.2.2 ∧ c.2.2.2 ≤ 4096
theorem GoodC.lo {cs : List Co} (h : GoodC cs) : ∀ c, c ∈ cs → 0 ≤ c.1 ∧ 0 ≤ c.2.2.2 := fun c m => ⟨(h c m).1, (h c m).2.1⟩
theorem GoodC.app {cs : List Co} {c : Co} (h : GoodC cs) (k : 0 ≤ c.1 ∧ 0 ≤ c.2.2.2 ∧ c.2.2.2 ≤ 4096) : GoodC (cs ++ [c]) := fun x m => by
  rcases List.mem_append.mp m with m | m
  · exact h x m
  · rw [List.mem_singleton.mp m]; exact k
/-- the functions' tables and costs, one after another -/
def mkR (fs : List (List In)) : Nat → Except (Nat × Nat) (List Tab × List Co)
  | 0 => .ok ([], [])
  | k + 1 => match mkR fs k with
    | .error e => .error e
    | .ok p => match fs[k]? with
      | none => .ok p
      | some c => match runT (lstF c p.2 32) (tab0 c.length) c.length with
        | .error i => .error (k, i)
        | .ok t => .ok (p.1 ++ [t], p.2 ++ [(judP c p.2 t).getD (0, 0, 0, 0)])
def jdR (fs : List (List In)) (ts : List Tab) : Nat → Option (List Co)
  | 0 => some []
  | k + 1 => match jdR fs ts k with
    | none => none
    | some cs => match fs[k]? with
      | none => none
      | some c => match ts[k]? with
        | none => none
        | some t => match judP c cs t with
          | none => none
          | some co => some (cs ++ [co])
/-- all tables of a program -/
def allM (fs : List (List In)) (mn : List In) : Except Pr (List Tab) := match mkR fs fs.length with
  | .error e => .error ((e.1 : Int), (e.2 : Int))
  | .ok p => match runT (lstF mn p.2 0) (tab0 mn.length) mn.length with
    | .error i => .error (-1, (i : Int))
    | .ok t => .ok (p.1 ++ [t])
def allJ (fs : List (List In)) (mn : List In) (ts : List Tab) : Option Co := if ts.length = fs.length + 1 then match jdR fs ts fs.length with
    | none => none
    | some cs => match ts[fs.length]? with
      | none => none
      | some t => match judP mn cs t with
        | none => none
        | some co => if co.1 = 0 then some co else none
  else none
theorem mkR_jud {fs : List (List In)} : ∀ (k : Nat) (p : List Tab × List Co), k ≤ fs.length → mkR fs k = .ok p → p.1.length = k ∧ p.2.length = k ∧ GoodC p.2 ∧ ∀ us, jdR fs (p.1 ++ us) k = some p.2
  | 0, p, _, h => by
    unfold mkR at h
    cases h
    exact ⟨rfl, rfl, fun c m => (nomatch m), fun us => rfl⟩
  | k + 1, p, hk, h => by
    unfold mkR at h
    cases hr : mkR fs k with
    | error e => rw [hr] at h; cases h
    | ok q =>
      obtain ⟨l1, l2, g, j⟩ := mkR_jud k q (by omega) hr
      rw [hr] at h
      simp only at h
      have hf : fs[k]? = some fs[k] := List.getElem?_eq_getElem (by omega)
      rw [hf] at h
      simp only at h
      generalize fs[k] = c at h hf
      cases hm : runT (lstF c q.2 32) (tab0 c.length) c.length with
      | error i => rw [hm] at h; cases h
      | ok t =>
        rw [hm] at h
        obtain ⟨co, hco, c1, c2, c3, c4, c5⟩ := made_judP (by decide) (by decide) g.lo hm
        simp only [hco, Option.getD_some] at h
        cases h
        refine ⟨by simp [l1], by simp [l2], g.app ⟨c1, c4, c5⟩, fun us => ?_⟩
        show (match jdR fs ((q.1 ++ [t]) ++ us) k with | none => none | some cs => _) = _
        have e : (q.1 ++ [t]) ++ us = q.1 ++ ([t] ++ us) := List.append_assoc _ _ _
        have e2 : ((q.1 ++ [t]) ++ us)[k]? = some t := by
          rw [e, List.getElem?_append_right (by omega), l1, Nat.sub_self]
          rfl
        rw [e, j]
        simp only [hf]
        rw [← e, e2]
        simp only [hco]
/-- made tables are judged -/
theorem made_all {fs : List (List In)} {mn : List In} {ts : List Tab} (h : allM fs mn = .ok ts) : ∃ co, allJ fs mn ts = some co := by
  unfold allM at h
  cases hr : mkR fs fs.length with
  | error e => rw [hr] at h; cases h
  | ok p =>
    rw [hr] at h
    simp only at h
    obtain ⟨l1, l2, g, j⟩ := mkR_jud _ p (Nat.le_refl _) hr
    cases hm : runT (lstF mn p.2 0) (tab0 mn.length) mn.length with
    | error i => rw [hm] at h; cases h
    | ok t =>
      rw [hm] at h
      cases h
      obtain ⟨co, hco, c1, c2, c3, c4, c5⟩ := made_judP (by decide) (by decide) g.lo hm
      refine ⟨co, ?_⟩
      unfold allJ
      rw [if_pos (by simp [l1]), j]
      simp only
      rw [show (p.1 ++ [t])[fs.length]? = some t by rw [List.getElem?_append_right (by omega), l1, Nat.sub_self]; rfl]
      simp only [hco]
      rw [if_pos (by omega)]
theorem judP_pos {c : List In} {cs : List Co} {t : List (Option Pr)} {co : Co} (h : judP c cs t = some co) : 0 ≤ co.2.2.2 ∧ co.2.2.2 ≤ 4096 := by
  obtain ⟨hb, a, z, ha, hz, rfl, k1, k2, k3⟩ := judP_at h
  unfold begP at hb
  simp only [Bool.and_eq_true, decide_eq_true_eq] at hb
  exact ⟨of_decide_eq_true (List.all_eq_true.mp hb.2.2.2.2 (some z) (List.mem_of_getElem? (atT_some hz))), k3⟩
theorem costOf_len {cs : List Co} {n : Int} {c : Co} (h : costOf cs n = some c) : 0 ≤ n ∧ n.toNat < cs.length := by
  unfold costOf at h
  by_cases h0 : 0 ≤ n
  · rw [if_pos h0] at h
    exact ⟨h0, (List.getElem?_eq_some_iff.mp h).1⟩
  · rw [if_neg h0] at h; cases h
theorem CostsLe.app {cs ds : List Co} {c d : Co} (h : CostsLe cs ds) (hl : cs.length = ds.length) (k : CostLe c d) : CostsLe (cs ++ [c]) (ds ++ [d]) := fun n x hx => by
  obtain ⟨n0, n1⟩ := costOf_len hx
  rw [List.length_append] at n1
  unfold costOf at hx ⊢
  rw [if_pos n0] at hx ⊢
  by_cases e : n.toNat < ds.length
  · rw [List.getElem?_append_left e] at hx
    rw [List.getElem?_append_left (by omega)]
    have := h n x (by unfold costOf; rw [if_pos n0, hx])
    unfold costOf at this
    rwa [if_pos n0] at this
  · have e1 : n.toNat = ds.length := by simp at n1; omega
    rw [e1, List.getElem?_append_right (Nat.le_refl _), Nat.sub_self] at hx
    cases hx
    refine ⟨c, ?_, k⟩
    rw [e1, ← hl, List.getElem?_append_right (Nat.le_refl _), Nat.sub_self]
    rfl
theorem jdR_made {fs : List (List In)} {us : List Tab} : ∀ (k : Nat) (ds : List Co), k ≤ fs.length → jdR fs us k = some ds → ∃ p, mkR fs k = .ok p ∧ p.1.length = k ∧ p.2.length = k ∧ ds.length = k ∧ CostsLe p.2 ds ∧ GoodC p.2 ∧ (∀ d, d ∈ ds → 0 ≤ d.2.2.2) ∧ ∀ (j : Nat) (s : Tab), p.1[j]? = some s → ∃ t, us[j]? = some t ∧ TabLe s t
  | 0, ds, _, h => by
    unfold jdR at h
    cases h
    refine ⟨([], []), rfl, rfl, rfl, rfl, fun n d hd => ?_, fun c m => (nomatch m), fun c m => (nomatch m), fun j s hj => (nomatch hj)⟩
    exact absurd (costOf_len hd).2 (by simp)
  | k + 1, ds, hk, h => by
    unfold jdR at h
    cases hr : jdR fs us k with
    | none => rw [hr] at h; cases h
    | some es =>
      obtain ⟨p, hp, l1, l2, l3, cl, g, pos, le⟩ := jdR_made k es (by omega) hr
      rw [hr] at h
      simp only at h
      have hf : fs[k]? = some fs[k] := List.getElem?_eq_getElem (by omega)
      rw [hf] at h
      simp only at h
      generalize fs[k] = c at h hf
      cases ht : us[k]? with
      | none => rw [ht] at h; cases h
      | some t =>
        rw [ht] at h
        simp only at h
        cases hj : judP c es t with
        | none => rw [hj] at h; cases h
        | some co =>
          rw [hj] at h
          cases h
          have c32 : co.1 ≤ 32 := by
            obtain ⟨_, a, z, _, _, rfl, k1, _⟩ := judP_at hj
            exact k1
          obtain ⟨s, c0, hs, ls, hc0, hle⟩ := made_le (most := 32) cl g.lo pos (by decide) (by decide) hj c32
          obtain ⟨co', hco', q1, q2, q3, q4, q5⟩ := made_judP (by decide) (by decide) g.lo hs
          rw [hc0] at hco'
          cases hco'
          refine ⟨(p.1 ++ [s], p.2 ++ [c0]), ?_, by simp [l1], by simp [l2], by simp [l3], cl.app (by omega) hle, g.app ⟨q1, q4, q5⟩, fun d m => ?_, fun j x hx => ?_⟩
          · unfold mkR
            rw [hp]
            simp only [hf, hs, hc0, Option.getD_some]
          · rcases List.mem_append.mp m with m | m
            · exact pos d m
            · rw [List.mem_singleton.mp m]; exact (judP_pos hj).1
          · by_cases e : j < k
            · rw [List.getElem?_append_left (by omega)] at hx
              exact le j x hx
            · rw [List.getElem?_append_right (by omega)] at hx
              have e0 : j - p.1.length = 0 := by
                have := (List.getElem?_eq_some_iff.mp hx).1
                simp at this
                omega
              rw [e0] at hx
              cases hx
              rw [show j = k by omega]
              exact ⟨t, ht, ls⟩
/-- if tables are judged, the made ones stand below them -/
theorem all_below {fs : List (List In)} {mn : List In} {us : List Tab} {co : Co} (h : allJ fs mn us = some co) : ∃ ts, allM fs mn = .ok ts ∧ ts.length = us.length ∧ ∀ (j : Nat) (s : Tab), ts[j]? = some s → ∃ t, us[j]? = some t ∧ TabLe s t := by
  unfold allJ at h
  by_cases hl : us.length = fs.length + 1
  · rw [if_pos hl] at h
    cases hr : jdR fs us fs.length with
    | none => rw [hr] at h; cases h
    | some ds =>
      obtain ⟨p, hp, l1, l2, l3, cl, g, pos, le⟩ := jdR_made _ ds (Nat.le_refl _) hr
      rw [hr] at h
      simp only at h
      cases ht : us[fs.length]? with
      | none => rw [ht] at h; cases h
      | some t =>
        rw [ht] at h
        simp only at h
        cases hj : judP mn ds t with
        | none => rw [hj] at h; cases h
        | some c1 =>
          rw [hj] at h
          simp only at h
          by_cases h0 : c1.1 = 0
          · obtain ⟨s, c0, hs, ls, hc0, hle⟩ := made_le (most := 0) cl g.lo pos (by decide) (by decide) hj (by omega)
            refine ⟨p.1 ++ [s], ?_, by simp [l1, hl], fun j x hx => ?_⟩
            · unfold allM
              rw [hp]
              simp only [hs]
            · by_cases e : j < fs.length
              · rw [List.getElem?_append_left (by omega)] at hx
                exact le j x hx
              · rw [List.getElem?_append_right (by omega)] at hx
                have e0 : j - p.1.length = 0 := by
                  have := (List.getElem?_eq_some_iff.mp hx).1
                  simp at this
                  omega
                rw [e0] at hx
                cases hx
                rw [show j = fs.length by omega]
                exact ⟨t, ht, ls⟩
          · rw [if_neg h0] at h; cases h
  · rw [if_neg hl] at h; cases h
end

section
variable {P : Program} {w : World} {K : PySem.W.Frag} {mg : Str → Option Value} {base : Heap}
theorem g_rep {l : Addr} {k : Int} {x : V} {H : Hp} {Q : VK} (h : H l = some (.lst [x])) (h0 : 0 ≤ k) (hk : k < 1000) (q : ∀ p, H p = none → Q (.ref p) (upd H p (.lst (List.replicate k.toNat x)))) : rRep (.ref l) (.int k) H Q := by
  have hz : (1000 : Nat) ≤ sizeLine := by decide
  refine ⟨l, k, [x], rfl, rfl, h, by omega, by omega, by simp; omega, fun p hp => ?_⟩
  have e : (List.replicate k.toNat [x]).flatten = List.replicate k.toNat x := by
    generalize k.toNat = n
    induction n with
    | zero => rfl
    | succ n ih => rw [List.replicate_succ, List.flatten_cons, ih]; rfl
  rw [e]
  exact q p hp
theorem g_gsub {ta tb : TE} {v : V} {σ : L2.St} {H : Hp} {Q : L2.St → Hp → Prop} (h : ta σ H fun o H2 => tb σ H2 fun i H3 => rSetL o i v H3 fun H4 => Q σ H4) : gSub ta tb rSetL v σ H Q := h
theorem DqA.setAt {S : List Addr} {H : Hp} : ∀ {ys : List V} {ds : List PyData} {v : V} {d : PyData} (n : Nat), DqA S H ys ds → Dq S H v d → DqA S H (ys.set n v) (ds.set n d)
  | [], _, _, _, _, h, _ => by cases h; exact .nil
  | _ :: _, _, _, _, 0, .cons _ h, k => .cons k h
  | _ :: _, _, _, _, n + 1, .cons a h, k => .cons a (DqA.setAt n h k)
theorem set_tab (t : List (Option Pr)) (n : Nat) (o : Option Pr) : (t.map opD).set n (opD o) = (t.set n o).map opD := by rw [List.map_set]
theorem run_err {F : Nat → List (Option Pr) → Option (List (Option Pr))} {t0 : List (Option Pr)} {i k : Nat} (h : runT F t0 i = .error k) : ∀ m, runT F t0 (i + m) = .error k
  | 0 => h
  | m + 1 => by
    show runT F t0 ((i + m) + 1) = _
    unfold runT
    rw [run_err h m]
local macro_rules | `(tactic| walk_at "fl.t") => `(tactic| (with_reducible refine g_chainW ?_))
local macro_rules | `(tactic| walk_at "fl.t") => `(tactic| (with_reducible refine g_gsub ?_))
local macro_rules | `(tactic| walk_at "fl.t") => `(tactic| (with_reducible refine g_ifE ?_))
local macro_rules | `(tactic| walk_at "fl.w") => `(tactic| repeat walk_at "fl.t")
theorem g_raise2W {W : WX} {C : Addr} {f f2 : Str} {i j : Int} {ta : TA} {D : Ends} {σ : L2.St} {H : Hp} (hta : ∀ R : List V → Hp → Prop, R [.int i, .int j] H → ta σ H R) (hi : i.natAbs < 10000) (hj : j.natAbs < 10000) (h : ∀ dx, H dx = none → W (.ref C) (some dx) σ (upd H dx (.xd [(f2, .int j), (f, .int i)]))) : tRaise2 W C f f2 ta D σ H :=
  hta _ (g_raise2 (D := D) (σ := σ) hi hj h)
/-- the table of a code: or the error, with function and place -/
def spLea (mg : Str → Option Value) : Sp := fun vs H Q E => ∃ (S : List Addr) (vc vk : V) (c : List In) (cs : List Co) (fn most : Int), vs = [vc, vk, .int fn, .int most] ∧ Al S H ∧ Dq S H vc (codeD c) ∧ Dq S H vk (costsD cs) ∧ CodeOk c ∧ CostsOk cs ∧ fn.natAbs < 10000 ∧
  (∀ t, runT (lstF c cs most) (tab0 c.length) c.length = .ok t → ∀ D H', H D = none → Same H H' → Dq S H' (.ref D) (tabD t) → Q (.ref D) H') ∧
  (∀ i, runT (lstF c cs most) (tab0 c.length) c.length = .error i → ∀ dx H', H dx = none → Same H H' → H' dx = some (.xd [("place", .int i), ("function", .int fn)]) → E (.ref (adr mg "NoTable")) (some dx) H')
theorem ok_least_table (T : Txt K mg) (I : WoK K w mg) : HasX P w K mg base 3 "least_table" ps_least_table (spLea mg) := by
  have hM_NoTable := mk_NT (P := P) (w := w) (base := base) T
  have h_kept_code := ok_kept_code (P := P) (w := w) (base := base) T
  have h_way_on := ok_way_on (P := P) (w := w) (base := base) T I
  have h_is_within := ok_is_within (P := P) (w := w) (base := base) T
  have h_places_behind := ok_places_behind (P := P) (w := w) (base := base) T
  have h_raised := ok_raised (P := P) (w := w) (base := base) T
  refine hasX_of T.d_least_table sc_least_table bd_least_table (fun vs H Q E h => ?_) (fun f cdv A outer s H vs Q E hr h => ?_)
  · obtain ⟨S, vc, vk, c, cs, fn, most, rfl, _⟩ := h
    rfl
  obtain ⟨S, vc, vk, c, cs, fn, most, rfl, hS, h1, h2, hc, hcs, hfn, qo, qe⟩ := h
  have hz := hc.z
  refine ⟨_, (pss_cons (ps_set (i := 4) sc_least_table.nd rfl (.inl rfl) (pe_h h_kept_code (hr.mono (by decide)) (pa_cons (pv 0) pa_nil)))
      (pss_cons (ps_set (i := 5) sc_least_table.nd rfl (.inl rfl) (pe_op op_cat (pe_lst (pa_cons (pe_tup (pa_cons pe_int (pa_cons pe_int pa_nil))) pa_nil)) (pe_op op_rep (pe_lst (pa_cons pe_non pa_nil)) (pe_callB (clLen (K := K) rfl) (by rfl) T.z_len (by decide +kernel) (pa_cons (pv 4) pa_nil)))))
      (pss_cons (ps_for (passes_of rfl) rfl (pi_range1 (by rfl) T.z_range (pa_cons (pe_callB (clLen (K := K) rfl) (by rfl) T.z_len (by decide +kernel) (pa_cons (pv 4) pa_nil)) pa_nil)) (pg_name (i := 6) sc_least_table.nd rfl (.inl rfl))
        (pss_one (ps_if (pt_cmpR op_notN (pe_ix (ixL (K := K) rfl) (pv 5) (pv 6) (fun _ _ => rfl)) pe_non (nomark _))
        (pss_cons (ps_set (i := 7) sc_least_table.nd rfl (.inl rfl) (pe_h h_way_on (hr.mono (by decide)) (pa_cons (pv 4) (pa_cons (pv 6) (pa_cons (pe_ix (ixL (K := K) rfl) (pv 5) (pv 6) (fun _ _ => rfl)) (pa_cons (pv 1) pa_nil))))))
      (pss_cons (ps_if (PW.pt (pw_or (pt_cmpR op_isN (pv 7) pe_non (nomark _)) (pw_or1 (pt_not (pt_val (pe_h h_is_within (hr.mono (by decide)) (pa_cons (pv 7) (pa_cons (pv 3) pa_nil))))))))
        (pss_one (ps_raise2 hM_NoTable rfl (hr.mono (by decide)) (takes_of rfl rfl rfl rfl) (pa_cons (pv 2) (pa_cons (pv 6) pa_nil))))
        pss_nil)
      (pss_one (ps_for (passes_of rfl) rfl (piL (K := K) rfl (pe_h h_places_behind (hr.mono (by decide)) (pa_cons (pv 4) (pa_cons (pv 6) pa_nil)))) (pg_name (i := 8) sc_least_table.nd rfl (.inl rfl))
        (pss_cons (ps_if (PW.pt (pw_and (pt_cmpR op_notN (pe_ix (ixL (K := K) rfl) (pv 5) (pv 8) (fun _ _ => rfl)) pe_non (nomark _)) (pw_and1 (pt_cmpR op_ne (pe_ix (ixT (K := K) rfl) (pe_ix (ixL (K := K) rfl) (pv 5) (pv 8) (fun _ _ => rfl)) pe_int (fun _ _ => rfl)) (pe_ix (ixT (K := K) rfl) (pv 7) pe_int (fun _ _ => rfl)) (nomark _)))))
        (pss_one (ps_raise2 hM_NoTable rfl (hr.mono (by decide)) (takes_of rfl rfl rfl rfl) (pa_cons (pv 2) (pa_cons (pv 6) pa_nil))))
        pss_nil)
      (pss_one (ps_asg (pe_h h_raised (hr.mono (by decide)) (pa_cons (pe_ix (ixL (K := K) rfl) (pv 5) (pv 8) (fun _ _ => rfl)) (pa_cons (pv 7) pa_nil))) (pg_sub (pv 5) (pv 8) set_list))))))))
        pss_nil)))
      (pss_one (ps_ret (pv 5)))))), ?_⟩
  walk_at "fl.w"
  refine spD_app S [codeD c] (codeD c) hS (.cons h1 .nil) ⟨c, rfl, by omega, fun r m => (hc.w r m).2, rfl⟩ (fun vs H1 sm1 ds => ?_)
  obtain ⟨a, xs, rfl, na, ra, hX⟩ := ds.lstE
  have lx := hX.len
  rw [List.length_map] at lx
  walk_at "fl.w"
  rename_i p0 hp0 l0 hl0 l1 hl1
  refine g_rep (x := .non) upd_same (by omega) (by omega) (fun l2 hl2 => ?_)
  rw [show ((xs.length : Nat) : Int).toNat = c.length by omega]
  refine g_cat (xs := [.ref p0]) (zs := List.replicate c.length .non) (raw_new hl2 (raw_new hl1 upd_same)) upd_same (by simp; omega) (fun D hD => ?_)
  obtain ⟨H3, hH3⟩ : ∃ H3 : Hp, H3 = upd (upd (upd (upd (upd H1 p0 (.tup [.int 0, .int 0])) l0 (.lst [.ref p0])) l1 (.lst [.non])) l2 (.lst (List.replicate c.length .non))) D (.lst ([.ref p0] ++ List.replicate c.length .non)) := ⟨_, rfl⟩
  rw [← hH3]
  have sm3 : Same H1 H3 := by rw [hH3]; exact ((((Fl.Same.new hp0).trans (Fl.Same.new hl0)).trans (Fl.Same.new hl1)).trans (Fl.Same.new hl2)).trans (Fl.Same.new hD)
  have rD : H3 D = some (.lst (.ref p0 :: List.replicate c.length .non)) := by rw [hH3]; exact upd_same
  have rp0 : H3 p0 = some (.tup [.int 0, .int 0]) := by rw [hH3]; exact raw_new hD (raw_new hl2 (raw_new hl1 (raw_new hl0 upd_same)))
  have fp0 : H1 p0 = none := hp0
  have fD : H1 D = none := free3 (free3 (free3 (free3 hD)))
  have nD : p0 ≠ D := fun e => by rw [e, rD] at rp0; cases rp0
  clear hH3 hD hl2 hl1 hl0 hp0
  have al1 := hS.same sm1
  have al3 : Al (D :: S) H3 := .cons (by rw [rD]; simp) (al1.same sm3)
  have dC : Dq (D :: S) H3 (.ref a) (codeD c) := (ds.new fD).same sm3
  have dK : Dq (D :: S) H3 vk (costsD cs) := ((h2.same sm1).new fD).same sm3
  have dT0 : DqA (D :: S) H3 (.ref p0 :: List.replicate c.length .non) ((tab0 c.length).map opD) := by
    unfold tab0
    rw [List.map_cons, List.map_replicate]
    refine .cons (.tup (by simp [nD, al1.ni fp0]) rp0 (.cons (.int _) (.cons (.int _) .nil))) ?_
    generalize c.length = n
    induction n with
    | zero => exact .nil
    | succ n ih => rw [List.replicate_succ, List.replicate_succ]; exact .cons .non ih
  have l0 : (tab0 c.length).length = c.length + 1 := by simp [tab0]
  walk_at "fl.w"
  refine forK_r (fun i σ' H' => ∃ u6 u7 u8 ys t, σ' = [some vc, some vk, some (.int fn), some (.int most), some (.ref a), some (.ref D), u6, u7, u8] ∧ runT (lstF c cs most) (tab0 c.length) i = .ok t ∧ t.length = c.length + 1 ∧ H' D = some (.lst ys) ∧ DqA (D :: S) H' ys (t.map opD) ∧ Fr [D] H3 H') ⟨_, _, _, _, tab0 c.length, rfl, rfl, l0, rD, dT0, Fr.refl⟩ ?_ ?_
  · intro i σ' H' hi ⟨u6, u7, u8, ys, t, e, hrun, hlt, rD', hY, fr⟩
    subst e
    have hi2 : i < c.length := by omega
    have hci : c[i]? = some c[i] := List.getElem?_eq_getElem hi2
    have hti : t[i]? = some t[i] := List.getElem?_eq_getElem (by omega)
    have hat : atT t (i : Int) = t[i] := by unfold atT; rw [show ((i : Nat) : Int).toNat = i from rfl, hti]; rfl
    obtain ⟨z, hz1, dz⟩ := hY.getD (i := i) (d := opD t[i]) (by rw [List.getElem?_map, hti]; rfl)
    have az : atI ys (i : Int) = some z := atI_nat hz1
    have ly := hY.len
    rw [List.length_map] at ly
    have frS : Fr (D :: S) H3 H' := fr.mono fun x m => by rw [List.mem_singleton.mp m]; exact List.mem_cons_self
    have alH : Al (D :: S) H' := al3.fr fr (.cons (by rw [rD']; simp) .nil)
    have dC' := dC.fr frS
    have dK' := dK.fr frS
    have hmem := List.mem_of_getElem? hci
    generalize hr : c[i] = r at hci hmem
    have hF : runT (lstF c cs most) (tab0 c.length) (i + 1) = match lstF c cs most i t with | none => .error i | some t' => .ok t' := by
      show (match runT (lstF c cs most) (tab0 c.length) i with | .error k => _ | .ok t => _) = _
      rw [hrun]
      all_goals rfl
    have hE : lstF c cs most i t = none → runT (lstF c cs most) (tab0 c.length) c.length = .error i := fun h => by
      have z := run_err (show runT (lstF c cs most) (tab0 c.length) (i + 1) = .error i by rw [hF, h]) (c.length - (i + 1))
      rwa [show i + 1 + (c.length - (i + 1)) = c.length by omega] at z
    have sm13 := sm1.trans sm3
    have hfree : ∀ {G : Hp} {dx : Addr}, Fr [D] H3 G → G D ≠ none → G dx = none → H dx = none := fun {G dx} f n e => by
      cases h : H dx with
      | none => rfl
      | some o =>
        by_cases q : dx = D
        · rw [q] at e; exact absurd e n
        · rw [f dx o (by simpa using q) (sm13 _ _ h)] at e; cases e
    have hsame : ∀ {G : Hp}, Fr [D] H3 G → Same H G := fun {G} f x o e => f x o (fun m => by
      rw [List.mem_singleton.mp m] at e
      have := sm1 _ _ e
      rw [fD] at this
      cases this) (sm13 _ _ e)
    rw [show (0 : Int) + (i : Int) = (i : Int) by omega]
    generalize t[i] = it at hat dz
    walk_at "fl.w"
    cases it with
    | none =>
      cases dz.nonE
      refine g_iteN (fun z => absurd rfl z) (fun _ => ?_)
      walk_at "fl.w"
      refine ⟨_, _, _, ys, t, rfl, ?_, hlt, rD', hY, fr⟩
      rw [hF]
      unfold lstF
      simp only [hci, hat]
    | some p =>
      obtain ⟨o, rfl, no, ro⟩ := prE dz
      refine g_iteN (fun _ => ?_) (fun z => by cases z)
      walk_at "fl.w"
      refine spD_app (D :: S) [codeD c, .int i, Fl.prD p, costsD cs] (ocD (wayP r ((c.length : Int) - i) p cs)) alH (.cons dC' (.cons (.int _) (.cons dz (.cons dK' .nil)))) ⟨c, i, r, p, cs, rfl, by omega, by have := hcs.1; omega, hci, (hc.w r hmem).1, hcs.2, rfl⟩ (fun vw H4 sm4 dw => ?_)
      have f4 : Fr [D] H3 H4 := fr.trans (Fr.same sm4)
      have rD4 := sm4 _ _ rD'
      have hL : lstF c cs most i t = match wayP r ((c.length : Int) - i) p cs with
        | none => none
        | some w => if withinP w most = true then lstB (behP r i) w t else none := by unfold lstF; simp only [hci, hat]; all_goals rfl
      cases hw : wayP r ((c.length : Int) - i) p cs with
      | none =>
        rw [hw] at dw hL
        cases dw.nonE
        walk_at "fl.w"
        refine g_ite (fun _ => ?_) (fun z => absurd rfl z)
        walk_at "fl.w"
        refine g_raise2W (i := fn) (j := i) (fun R r => ⟨_, rfl, _, rfl, r⟩) hfn (by omega) (fun dx hdx => ?_)
        exact qe i (hE hL) dx _ (hfree f4 (by rw [rD4]; simp) hdx) ((hsame f4).trans (Fl.Same.new hdx)) upd_same
      | some wy =>
        rw [hw] at dw hL
        have dw0 := dw
        obtain ⟨wa, rfl, nw, rw'⟩ := coE dw
        have al4 := alH.same sm4
        walk_at "fl.w"
        refine g_ite (fun z => by cases z) (fun _ => ?_)
        walk_at "fl.w"
        refine spD_app (D :: S) [coD wy, .int most] (.bool (withinP wy most)) al4 (.cons dw0 (.cons (.int _) .nil)) ⟨wy, most, rfl, rfl⟩ (fun vb H5 sm5 db => ?_)
        cases db.blE
        have f5 : Fr [D] H3 H5 := f4.trans (Fr.same sm5)
        have rD5 := sm5 _ _ rD4
        simp only at hL
        by_cases hin : withinP wy most = true
        case neg =>
          rw [if_neg hin] at hL
          rw [show withinP wy most = false by simpa using hin]
          walk_at "fl.w"
          refine g_raise2W (i := fn) (j := i) (fun R r => ⟨_, rfl, _, rfl, r⟩) hfn (by omega) (fun dx hdx => ?_)
          exact qe i (hE hL) dx _ (hfree f5 (by rw [rD5]; simp) hdx) ((hsame f5).trans (Fl.Same.new hdx)) upd_same
        rw [if_pos hin] at hL
        rw [hin]
        walk_at "fl.w"
        have al5 := al4.same sm5
        have dC5 := (dC'.same sm4).same sm5
        refine spD_app (D :: S) [codeD c, .int i] (.list ((behP r i).map PyData.int)) al5 (.cons dC5 (.cons (.int _) .nil)) ⟨c, i, r, rfl, by omega, hci, rfl⟩ (fun vp H6 sm6 dp => ?_)
        obtain ⟨pa, ps, rfl, npa, rpa, hP⟩ := dp.lstE
        have rD6 := sm6 _ _ rD5
        have f6 : Fr [D] H3 H6 := f5.trans (Fr.same sm6)
        have lp := hP.len
        rw [List.length_map] at lp
        have rw6 := sm6 _ _ (sm5 _ _ rw')
        have hY6 := ((hY.same sm4).same sm5).same sm6
        have al6 := al5.same sm6
        have hbeh := beh_in hi2 hw
        walk_at "fl.w"
        refine forK_l (xs := ps) (fun j σ2 G => ∃ u8 zs s, σ2 = [some vc, some vk, some (.int fn), some (.int most), some (.ref a), some (.ref D), some (.int i), some (.ref wa), u8] ∧ lstB (behP r i) wy t = lstB ((behP r i).drop j) wy s ∧ s.length = c.length + 1 ∧ G D = some (.lst zs) ∧ DqA (D :: S) G zs (s.map opD) ∧ Fr [D] H6 G) ⟨_, ys, t, rfl, rfl, hlt, rD6, hY6, Fr.refl⟩ ?_ ?_ ?_
        · intro j σ2 G _ ⟨_, _, _, _, _, _, _, _, fg⟩
          exact SqL.of (fg _ _ (by simp at npa ⊢; exact npa.1) rpa)
        · intro j x σ2 G hx ⟨u8, zs, s, e, hB, hls, rDG, hZ, fg⟩
          subst e
          have hji : j < (behP r i).length := by
            have := (List.getElem?_eq_some_iff.mp hx).1
            omega
          have hb0 : (behP r i)[j]? = some (behP r i)[j] := List.getElem?_eq_getElem hji
          obtain ⟨x', hx', dx'⟩ := hP.getD (i := j) (d := .int (behP r i)[j]) (by rw [List.getElem?_map, hb0]; rfl)
          cases hx.symm.trans hx'
          cases dx'.intE
          have hdr : (behP r i).drop j = (behP r i)[j] :: (behP r i).drop (j + 1) := List.drop_eq_getElem_cons hji
          have hm := List.mem_of_getElem? hb0
          generalize (behP r i)[j] = y at hdr hm
          obtain ⟨y0, y1⟩ := hbeh y hm
          have lz := hZ.len
          rw [List.length_map] at lz
          have hyl : y.toNat < s.length := by omega
          have hsy : s[y.toNat]? = some s[y.toNat] := List.getElem?_eq_getElem hyl
          have hay : atT s y = s[y.toNat] := by unfold atT; rw [hsy]; rfl
          obtain ⟨q0, hq0, dq⟩ := hZ.getD (i := y.toNat) (d := opD s[y.toNat]) (by rw [List.getElem?_map, hsy]; rfl)
          have aq : atI zs y = some q0 := by
            have := atI_nat hq0
            rwa [show ((y.toNat : Nat) : Int) = y by omega] at this
          generalize s[y.toNat] = io at hay dq
          have frG : Fr (D :: S) H6 G := fg.mono fun x m => by rw [List.mem_singleton.mp m]; exact List.mem_cons_self
          have alG : Al (D :: S) G := al6.fr fg (.cons (by rw [rDG]; simp) .nil)
          have rwG := fg _ _ (by simp at nw ⊢; exact nw.1) rw6
          have dwG : Dq (D :: S) G (.ref wa) (coD wy) := .tup nw rwG (.cons (.int _) (.cons (.int _) (.cons (.int _) (.cons (.int _) .nil))))
          have f7 : Fr [D] H3 G := f6.trans fg
          rw [hdr] at hB
          have put : ∀ (vr : V) (G1 : Hp), Same G G1 → Dq (D :: S) G1 vr (Fl.prD (raisedP io wy)) → (∀ q, io = some q → q.1 = wy.1) → ∃ u8 zs' s', [some vc, some vk, some (V.int fn), some (V.int most), some (V.ref a), some (V.ref D), some (V.int i), some (V.ref wa), some (V.int y)] = [some vc, some vk, some (V.int fn), some (V.int most), some (V.ref a), some (V.ref D), some (V.int i), some (V.ref wa), u8] ∧ lstB (behP r i) wy t = lstB ((behP r i).drop (j + 1)) wy s' ∧ s'.length = c.length + 1 ∧ (upd G1 D (.lst (zs.set y.toNat vr))) D = some (.lst zs') ∧ DqA (D :: S) (upd G1 D (.lst (zs.set y.toNat vr))) zs' (s'.map opD) ∧ Fr [D] H6 (upd G1 D (.lst (zs.set y.toNat vr))) := fun vr G1 smG dr hq => by
            refine ⟨_, zs.set y.toNat vr, s.set y.toNat (some (raisedP io wy)), rfl, ?_, by rw [List.length_set]; exact hls, upd_same, ?_, (fg.trans (Fr.same smG)).trans (Fr.upd (by simp))⟩
            · rw [hB]
              conv => lhs; unfold lstB
              rw [hay]
              cases io with
              | none => rfl
              | some q =>
                simp only
                rw [if_neg (by rw [hq q rfl]; simp)]
            · rw [← set_tab]
              exact (DqA.setAt y.toNat (hZ.same smG) dr).fr (Fr.upd (by simp))
          have hix : ixN zs.length y = some y.toNat := by
            unfold ixN
            rw [if_pos (by omega), if_pos (by omega)]
          walk_at "fl.w"
          cases io with
          | none =>
            cases dq.nonE
            refine g_iteN (fun z => absurd rfl z) (fun _ => ?_)
            walk_at "fl.w"
            refine spD_app (D :: S) [.none, coD wy] (Fl.prD (raisedP none wy)) alG (.cons .non (.cons dwG .nil)) ⟨none, wy, rfl, rfl⟩ (fun vr G1 smG dr => ?_)
            have rDG1 := smG _ _ rDG
            walk_at "fl.w"
            refine g_setL rDG1 hix ?_
            exact put vr G1 smG dr (fun q h => by cases h)
          | some q =>
            obtain ⟨qa, rfl, nq, rq⟩ := prE dq
            refine g_iteN (fun _ => ?_) (fun z => by cases z)
            walk_at "fl.w"
            refine g_iteN (fun hne => ?_) (fun heq => ?_)
            · walk_at "fl.w"
              refine g_raise2W (i := fn) (j := i) (fun R r => ⟨_, rfl, _, rfl, r⟩) hfn (by omega) (fun dx hdx => ?_)
              refine qe i (hE ?_) dx _ (hfree f7 (by rw [rDG]; simp) hdx) ((hsame f7).trans (Fl.Same.new hdx)) upd_same
              rw [hL, hB]
              unfold lstB
              rw [hay]
              simp only
              rw [if_pos hne]
            · walk_at "fl.w"
              refine spD_app (D :: S) [Fl.prD q, coD wy] (Fl.prD (raisedP (some q) wy)) alG (.cons dq (.cons dwG .nil)) ⟨some q, wy, rfl, rfl⟩ (fun vr G1 smG dr => ?_)
              have rDG1 := smG _ _ rDG
              walk_at "fl.w"
              refine g_setL rDG1 hix ?_
              exact put vr G1 smG dr (fun q' h => by cases h; exact heq)
        · intro σ2 G ⟨u8, zs, s, e, hB, hls, rDG, hZ, fg⟩
          subst e
          rw [lp, List.drop_length] at hB
          refine ⟨_, _, _, zs, s, rfl, ?_, hls, rDG, hZ, f6.trans fg⟩
          rw [hF, hL, hB]
          rfl
  · intro σ' H' ⟨u6, u7, u8, ys, t, e, hrun, hlt, rD', hY, fr⟩
    subst e
    rw [show ((xs.length : Nat) : Int).toNat = c.length by omega] at hrun
    walk_at "fl.w"
    refine qo t hrun _ _ (Same.free sm1 fD) (fun x o e => fr x o (fun m => by
      rw [List.mem_singleton.mp m] at e
      have := sm1 _ _ e
      rw [fD] at this
      cases this) ((sm1.trans sm3) _ _ e)) (.lst (al1.ni fD) rD' hY.tail)
end

section
variable {P : Program} {w : World} {K : PySem.W.Frag} {mg : Str → Option Value} {base : Heap}
local macro_rules | `(tactic| walk_at "fl.t") => `(tactic| (with_reducible refine g_callS ?_))
local macro_rules | `(tactic| walk_at "fl.t") => `(tactic| (with_reducible refine g_chainW ?_))
local macro_rules | `(tactic| walk_at "fl.t") => `(tactic| (with_reducible refine g_ifE ?_))
local macro_rules | `(tactic| walk_at "fl.w") => `(tactic| repeat walk_at "fl.t")
/-- a program -/
structure Pg where
  m : List In
  f : List (List In)
  p : List Int
  z : Int
structure PgOk (g : Pg) : Prop where
  m : CodeOk g.m
  f : ∀ c, c ∈ g.f → CodeOk c
  fl : g.f.length ≤ 20
  pl : g.p.length < 900
def itD (ns : List Int) : PyData := .list (ns.map PyData.int)
def fsD (fs : List (List In)) : PyData := .list (fs.map codeD)
def Pg.F (g : Pg) : List (Str × PyData) := [("main", codeD g.m), ("functions", fsD g.f), ("presets", itD g.p), ("size", .int g.z)]
def fPg : List PyData → List (Str × PyData) → Prop := fun ds fs => ∃ g, PgOk g ∧ ds = [codeD g.m, fsD g.f, itD g.p, .int g.z] ∧ fs = g.F
theorem de_lst {K : PySem.W.Frag} {S : List Addr} {H : Hp} {v : V} {xs : List PyData} (h : De K S H v (.list xs)) : Dq S H v (.list xs) := h.lst
theorem de_int {K : PySem.W.Frag} {S : List Addr} {H : Hp} {v : V} {i : Int} (h : De K S H v (.int i)) : v = .int i := by
  rcases h with h | ⟨e, _⟩
  · exact h.intE
  · cases e
theorem ok_Program (T : Txt K mg) {e1 e2 : Addr} (c : ClsI K mg "Program" "Program.__init__" s_Program fl_Program (kw_Program e1 e2)) : InI P w K mg base 2 "Program" "Program.__init__" s_Program fl_Program (kw_Program e1 e2) ps_Program (spI K (adr mg "Program") fPg) := by
  have cl := c.cl
  have na := c.na
  have h_tuples_of := ok_tuples_of (P := P) (w := w) (base := base) T
  refine inI_of c sc_Program (fun vs H Q E h => ?_) (fun f cdv A outer s H vs Q E hr h => ?_)
  · obtain ⟨S, x, dx, ws, ds, fs, rfl, _, _, _, hd, ⟨g, _, rfl, _⟩, q⟩ := h
    obtain ⟨v1, _, rfl, _, hd⟩ := hd.consE
    obtain ⟨v2, _, rfl, _, hd⟩ := hd.consE
    obtain ⟨v3, _, rfl, _, hd⟩ := hd.consE
    obtain ⟨v4, _, rfl, _, hd⟩ := hd.consE
    cases hd.nilE
    rfl
  · obtain ⟨S, x, dx, ws, ds, fs, rfl, hxS, hS, hx, hd, ⟨g, ok, rfl, rfl⟩, q⟩ := h
    obtain ⟨v1, _, rfl, h1, hd⟩ := hd.consE
    obtain ⟨v2, _, rfl, h2, hd⟩ := hd.consE
    obtain ⟨v3, _, rfl, h3, hd⟩ := hd.consE
    obtain ⟨v4, _, rfl, h4, hd⟩ := hd.consE
    cases hd.nilE
    cases de_int h4
    have I0 := InitAt.start hx hS hxS
    have hz := ok.m.z
    have hfl := ok.fl
    have hpl := ok.pl
    refine ⟨_, (pss_cons (psFld (K := K) rfl (pv 0) (pe_h h_tuples_of (hr.mono (by decide)) (pa_cons (pv 1) pa_nil)) rfl)
      (pss_cons (psFld (K := K) rfl (pv 0) (pe_lc (own := [("function", 5)]) rfl sc_Program.nd (piL (K := K) rfl (pv 2)) (blkOk_by (by kernel_rfl)) (fun _ _ _ _ _ => (pg_name (i := 5) sc_Program.nd rfl (.inl rfl))) (fun _ _ _ _ _ => pts_nil) (fun _ _ _ _ _ => (pe_h h_tuples_of (hr.mono (by decide)) (pa_cons (pv 5) pa_nil)))) rfl)
      (pss_cons (psFld (K := K) rfl (pv 0) (pe_callTy (clList (K := K) rfl) (by rfl) T.z_list (by decide +kernel) (pa_cons (pv 3) pa_nil)) rfl)
      (pss_one (psFld (K := K) rfl (pv 0) (pv 4) rfl))))), ?_⟩
    walk_at "fl.w"
    refine spD_app S [codeD g.m] (codeD g.m) hS (.cons (de_lst h1) .nil) ⟨g.m, rfl, by omega, rfl⟩ (fun v H1 sm1 dv => ?_)
    have I0s := I0.same sm1
    walk_at "fl.w"
    have I1 := I0s.put dv "main" rfl
    walk_at "fl.w"
    obtain ⟨a, xs, rfl, na2, ra, hX⟩ := (I1.dqO (de_lst h2)).lstE
    walk_at "fl.w"
    refine lcL (S := S) (fun i => (g.f[i]?).map codeD) I1.al (.lst na2 ra hX) (by rw [List.length_map]; omega) ?_ ?_
    · intro D i x2 e H2 hD he sm al hxe R N hR hN
      obtain ⟨r, hr1, rfl⟩ := at_map he
      have hcz := (ok.f r (List.mem_of_getElem? hr1)).z
      refine g_name ⟨rfl, ?_⟩
      walk_at "fl.w"
      refine spD_app (D :: S) [codeD r] (codeD r) al (.cons hxe .nil) ⟨r, rfl, by omega, rfl⟩ (fun v H3 sm3 hv => ?_)
      exact hR _ _ _ (by rw [hr1]; rfl) sm3 hv
    intro D H2 sm2 hD hq2
    rw [fm_ltA (by rw [List.length_map])] at hq2
    have I1s := I1.same sm2
    walk_at "fl.w"
    have I2 := I1s.put (show Dq S H2 (.ref D) (fsD g.f) from hq2) "functions" rfl
    walk_at "fl.w"
    obtain ⟨b, ys, rfl, nb, rb, hY⟩ := (I2.dqO (de_lst h3)).lstE
    walk_at "fl.w"
    rename_i lp hlp
    have I2s := I2.same (Fl.Same.new (o := .lst ys) hlp)
    have I3 := I2s.put (show Dq S _ (.ref lp) (itD g.p) from .newL I2.al hlp hY) "presets" rfl
    walk_at "fl.w"
    have I4 := I3.put (.int g.z) "size" rfl
    walk_at "fl.w"
    exact q _ _ I4.fr I4.hx I4.dq
theorem mk_Prog {e1 e2 : Addr} {sp : Sp} (h : InI P w K mg base 2 "Program" "Program.__init__" s_Program fl_Program (kw_Program e1 e2) ps_Program sp) :
    MkI P w K mg base 2 "Program" 1 ["functions", "presets", "size"] (fun vs zs => pick [0, 1, 2, 3, 4] (vs ++ ([] ++ zs))) sp :=
  h.make 1 ["functions", "presets", "size"] [] [0, 1, 2, 3, 4] (by simp) (fun q m => nomatch m) fun D doc pm an cdv ct us mv ws h1 h2 h3 => match us, h1, mv, h2, ws, h3 with | [_, _], _, [], _, [_, _, _], _ => rfl
def pgD (g : Pg) : PyData := .list [codeD g.m, fsD g.f, itD g.p, .int g.z]
def fHa (mg : Str → Option Value) (ds : List PyData) (d : PyData) : Prop := ∃ g, ds = [pgD g] ∧ PgOk g ∧ d = insD (adr mg "Program") g.F
theorem ok_law_handed (T : Txt K mg) : Has P w K mg base 4 "_law_handed" ps_law_handed (spD (fHa mg)) := by
  obtain ⟨e1, e2, m1, m2, c⟩ := T.c_Program
  have cl := c.cl
  have na := c.na
  have mk_Program_1_functions_presets_size := mk_Prog (ok_Program (P := P) (w := w) (base := base) T c)
  refine has_of T.d_law_handed sc_law_handed bd_law_handed (fun vs H Q E h => ?_) (fun f cdv A outer s H vs Q E hr h => ?_)
  · obtain ⟨S, ds, d, _, hd, ⟨g, rfl, _⟩, _⟩ := h
    rw [hd.len]; rfl
  · obtain ⟨S, ds, d, hS, hd, ⟨g, rfl, ok, rfl⟩, q⟩ := h
    obtain ⟨v, _, rfl, hv, hd⟩ := hd.consE
    cases hd.nilE
    obtain ⟨a, xs, rfl, na2, ra, hX⟩ := hv.lstE
    obtain ⟨v1, _, rfl, h1, hX⟩ := hX.consE
    obtain ⟨v2, _, rfl, h2, hX⟩ := hX.consE
    obtain ⟨v3, _, rfl, h3, hX⟩ := hX.consE
    obtain ⟨v4, _, rfl, h4, hX⟩ := hX.consE
    cases hX.nilE
    cases h4.intE
    obtain ⟨b1, ys1, rfl, nb1, rb1, hY1⟩ := h1.lstE
    obtain ⟨b2, ys2, rfl, nb2, rb2, hY2⟩ := h2.lstE
    obtain ⟨b3, ys3, rfl, nb3, rb3, hY3⟩ := h3.lstE
    have hfl := ok.fl
    refine ⟨_, (pss_one (ps_ret (pe_mk (mg := mg) rfl mk_Program_1_functions_presets_size (hr.mono (by decide)) (pa_cons (pe_callTy (clList (K := K) rfl) (by rfl) T.z_list (by decide +kernel) (pa_cons (pe_ix (ixL (K := K) rfl) (pv 0) pe_int (fun _ _ => rfl)) pa_nil)) pa_nil) (pk_cons (pe_lc (own := [("code", 1)]) rfl sc_law_handed.nd (piL (K := K) rfl (pe_ix (ixL (K := K) rfl) (pv 0) pe_int (fun _ _ => rfl))) (blkOk_by (by kernel_rfl)) (fun _ _ _ _ _ => (pg_name (i := 1) sc_law_handed.nd rfl (.inl rfl))) (fun _ _ _ _ _ => pts_nil) (fun _ _ _ _ _ => (pe_callTy (clList (K := K) rfl) (by rfl) T.z_list (by decide +kernel) (pa_cons (pv 1) pa_nil)))) (pk_cons (pe_callTy (clList (K := K) rfl) (by rfl) T.z_list (by decide +kernel) (pa_cons (pe_ix (ixL (K := K) rfl) (pv 0) pe_int (fun _ _ => rfl)) pa_nil)) (pk_cons (pe_ix (ixL (K := K) rfl) (pv 0) pe_int (fun _ _ => rfl)) pk_nil)))))), ?_⟩
    walk_at "fl.w"
    rename_i l1 hl1
    have s1 : Same H _ := Fl.Same.new (o := .lst ys1) hl1
    have al1 := hS.same s1
    refine lcL (S := S) (fun i => (g.f[i]?).map codeD) al1 (h2.same s1) (by rw [List.length_map]; omega) ?_ ?_
    · intro D i x2 e H2 hD he sm al hxe R N hR hN
      obtain ⟨r, hr1, rfl⟩ := at_map he
      obtain ⟨t, zs, rfl, nt, rt, hZ⟩ := hxe.lstE
      refine g_name ⟨rfl, ?_⟩
      walk_at "fl.w"
      rename_i lt hlt
      exact hR _ _ _ (by rw [hr1]; rfl) (Fl.Same.new hlt) (show Dq (D :: S) _ (.ref lt) (codeD r) from .newL al hlt hZ)
    intro D H2 sm2 hD hq2
    rw [fm_ltA (by rw [List.length_map])] at hq2
    have s2 := s1.trans sm2
    have ra2 := s2 _ _ ra
    have rb32 := s2 _ _ rb3
    walk_at "fl.w"
    rename_i l3 hl3
    have s3 := s2.trans (Fl.Same.new (o := .lst ys3) hl3)
    have ra3 := s3 _ _ ra
    have al2 := hS.same s2
    have al3 := hS.same s3
    have d1 : Dq S _ (.ref l1) (codeD g.m) := ((Dq.newL hS hl1 hY1 : Dq S _ (.ref l1) (codeD g.m)).same sm2).same (Fl.Same.new (o := .lst ys3) hl3)
    have d2 : Dq S _ (.ref D) (fsD g.f) := Dq.same hq2 (Fl.Same.new (o := .lst ys3) hl3)
    have d3 : Dq S _ (.ref l3) (itD g.p) := .newL al2 hl3 (hY3.same s2)
    walk_at "fl.w"
    refine g_mk rfl rfl (mk_app (f := fPg) (ws := [.ref l1, .ref D, .ref l3, .int g.z]) S [codeD g.m, fsD g.f, itD g.p, .int g.z] g.F (fun x => rfl) al3 (.cons (.inl d1) (.cons (.inl d2) (.cons (.inl d3) (.cons (.inl (.int _)) .nil))))
      ⟨g, ok, rfl, rfl⟩ fun x H4 sm4 hv4 => q _ _ (s3.trans sm4) hv4)
end

section
variable {P : Program} {w : World} {K : PySem.W.Frag} {mg : Str → Option Value} {base : Heap}
local macro_rules | `(tactic| walk_at "fl.t") => `(tactic| (with_reducible refine g_callS ?_))
local macro_rules | `(tactic| walk_at "fl.t") => `(tactic| (with_reducible refine g_chainW ?_))
local macro_rules | `(tactic| walk_at "fl.t") => `(tactic| (with_reducible refine g_ifE ?_))
local macro_rules | `(tactic| walk_at "fl.w") => `(tactic| repeat walk_at "fl.t")
/-- data of tuples and None stand at no list -/
theorem op_more {S : List Addr} {H : Hp} {v : V} {o : Option Pr} {X : Addr} {zs : List V} (h : Dq S H v (opD o)) (hX : H X = some (.lst zs)) : Dq (X :: S) H v (opD o) := by
  cases o with
  | none => cases h.nonE; exact .non
  | some p =>
    obtain ⟨a, rfl, na, ra⟩ := prE h
    exact .tup (by simp; exact ⟨fun e => (by rw [e, hX] at ra; cases ra), na⟩) ra (.cons (.int _) (.cons (.int _) .nil))
theorem co_more {S : List Addr} {H : Hp} {v : V} {c : Co} {X : Addr} {zs : List V} (h : Dq S H v (coD c)) (hX : H X = some (.lst zs)) : Dq (X :: S) H v (coD c) := by
  obtain ⟨a, rfl, na, ra⟩ := coE h
  exact .tup (by simp; exact ⟨fun e => (by rw [e, hX] at ra; cases ra), na⟩) ra (.cons (.int _) (.cons (.int _) (.cons (.int _) (.cons (.int _) .nil))))
theorem ops_more {S : List Addr} {H : Hp} {X : Addr} {zs : List V} (hX : H X = some (.lst zs)) : ∀ {vs : List V} (t : List (Option Pr)), DqA S H vs (t.map opD) → DqA (X :: S) H vs (t.map opD)
  | _, [], h => by cases h; exact .nil
  | _, o :: t, h => by
    obtain ⟨v, ws, rfl, h1, h2⟩ := h.consE
    exact .cons (op_more h1 hX) (ops_more hX t h2)
theorem tab_more {S : List Addr} {H : Hp} {D X : Addr} {t : List (Option Pr)} {zs : List V} (h : Dq S H (.ref D) (tabD t)) (hne : D ≠ X) (hX : H X = some (.lst zs)) : Dq (X :: S) H (.ref D) (tabD t) := by
  obtain ⟨a, xs, e, na, ra, hA⟩ := h.lstE
  cases e
  exact .lst (by simp; exact ⟨hne, na⟩) ra (ops_more hX t hA)
def tabsD (ts : List Tab) : PyData := .list (ts.map tabD)
/-- all tables of a program, or the error -/
def spMkt (mg : Str → Option Value) : Sp := fun vs H Q E => ∃ (S : List Addr) (v : V) (g : Pg), vs = [v] ∧ Al S H ∧ Dq S H v (insD (adr mg "Program") g.F) ∧ PgOk g ∧
  (∀ ts, allM g.f g.m = .ok ts → ∀ v' H', Same H H' → Dq S H' v' (tabsD ts) → Q v' H') ∧
  (∀ e, allM g.f g.m = .error e → ∀ dx H', H dx = none → Same H H' → H' dx = some (.xd [("place", .int e.2), ("function", .int e.1)]) → E (.ref (adr mg "NoTable")) (some dx) H')
theorem mkR_err {fs : List (List In)} {i : Nat} {e : Nat × Nat} (h : mkR fs i = .error e) : ∀ m, mkR fs (i + m) = .error e
  | 0 => h
  | m + 1 => by
    show mkR fs ((i + m) + 1) = _
    unfold mkR
    rw [mkR_err h m]
theorem GoodC.ok {cs : List Co} (h : GoodC cs) (hl : cs.length < 100) : CostsOk cs := ⟨hl, fun c m => by have := h c m; omega⟩
theorem judP_costs {c : List In} {cs : List Co} {t : List (Option Pr)} {co : Co} (h : judP c cs t = some co) : co.2.2.2.natAbs ≤ 1000000 := by
  have := judP_pos h
  omega
theorem ok_make_tables (T : Txt K mg) (I : WoK K w mg) : HasX P w K mg base 4 "make_tables" ps_make_tables (spMkt mg) := by
  have hM_NoTable := mk_NT (P := P) (w := w) (base := base) T
  have hX_least_table := ok_least_table (P := P) (w := w) (base := base) T I
  have h_judge_table := ok_judge_table (P := P) (w := w) (base := base) T I
  obtain ⟨e1, e2, m1, m2, c⟩ := T.c_Program
  have cl := c.cl
  have na := c.na
  refine hasX_of T.d_make_tables sc_make_tables bd_make_tables (fun vs H Q E h => ?_) (fun f cdv A outer s H vs Q E hr h => ?_)
  · obtain ⟨S, v, g, rfl, _⟩ := h
    rfl
  obtain ⟨S, v, g, rfl, hS, hv, ok, qo, qe⟩ := h
  have hfl := ok.fl
  obtain ⟨a, dx, fs, rfl, nA, rA, hN⟩ := hv.insE
  obtain ⟨v1, fs, rfl, h1, hN⟩ := hN.consE
  obtain ⟨v2, fs, rfl, h2, hN⟩ := hN.consE
  obtain ⟨v3, fs, rfl, h3, hN⟩ := hN.consE
  obtain ⟨v4, fs, rfl, h4, hN⟩ := hN.consE
  cases hN.nilE
  obtain ⟨b, xs, rfl, nb, rb, hX⟩ := h2.lstE
  have lx := hX.len
  rw [List.length_map] at lx
  refine ⟨_, (pss_cons (ps_if (pt_cmpR op_gt (pe_callB (clLen (K := K) rfl) (by rfl) T.z_len (by decide +kernel) (pa_cons (peFld (K := K) rfl (pv 0) rfl) pa_nil)) (pe_gv (by rfl) T.g_MOST_CALLS) (nomark _))
        (pss_one (ps_raise2 hM_NoTable rfl (hr.mono (by decide)) (takes_of rfl rfl rfl rfl) (pa_cons (pe_gv (by rfl) T.g_MOST_CALLS) (pa_cons pe_int pa_nil))))
        pss_nil)
      (pss_cons (ps_set (i := 1) sc_make_tables.nd rfl (.inl rfl) (pe_lst pa_nil))
      (pss_cons (ps_set (i := 2) sc_make_tables.nd rfl (.inl rfl) (pe_lst pa_nil))
      (pss_cons (ps_for (passes_of rfl) rfl (piEnum (K := K) rfl (by rfl) T.z_enumerate (pa_cons (peFld (K := K) rfl (pv 0) rfl) pa_nil)) (pgT (n := 2) (K := K) rfl (by rfl) (pgs_cons (pg_name (i := 3) sc_make_tables.nd rfl (.inl rfl)) (pgs_cons (pg_name (i := 4) sc_make_tables.nd rfl (.inl rfl)) pgs_nil)))
        (pss_cons (ps_set (i := 5) sc_make_tables.nd rfl (.inl rfl) (pe_hX hX_least_table (hr.mono (by decide)) (takes_of rfl rfl rfl rfl) (pa_cons (pv 4) (pa_cons (pv 2) (pa_cons (pv 3) (pa_cons (pe_gv (by rfl) T.g_MOST_VALUES) pa_nil))))))
      (pss_cons (ps_expr (pe_bm PySem.F.plainAttrs_list PySem.F.slot_list_append PySem.F.type_list_append mt_append (pv 1) (pa_cons (pv 5) pa_nil)))
      (pss_one (ps_expr (pe_bm PySem.F.plainAttrs_list PySem.F.slot_list_append PySem.F.type_list_append mt_append (pv 2) (pa_cons (pe_h h_judge_table (hr.mono (by decide)) (pa_cons (pv 4) (pa_cons (pv 2) (pa_cons (pv 5) pa_nil)))) pa_nil)))))))
      (pss_one (ps_ret (pe_op op_cat (pv 1) (pe_lst (pa_cons (pe_hX hX_least_table (hr.mono (by decide)) (takes_of rfl rfl rfl rfl) (pa_cons (peFld (K := K) rfl (pv 0) rfl) (pa_cons (pv 2) (pa_cons (pe_gv (by rfl) T.g_MAIN) (pa_cons pe_int pa_nil))))) pa_nil))))))))), ?_⟩
  walk_at "fl.w"
  refine g_ite (fun z => by exfalso; omega) (fun _ => ?_)
  walk_at "fl.w"
  rename_i D1 hD1 D2 hD2
  obtain ⟨H3, hH3⟩ : ∃ H3 : Hp, H3 = upd (upd H D1 (.lst [])) D2 (.lst []) := ⟨_, rfl⟩
  rw [← hH3]
  have sm3 : Same H H3 := by rw [hH3]; exact (Fl.Same.new hD1).trans (Fl.Same.new hD2)
  have r1 : H3 D1 = some (.lst []) := by rw [hH3]; exact raw_new hD2 upd_same
  have r2 : H3 D2 = some (.lst []) := by rw [hH3]; exact upd_same
  have f1 : H D1 = none := hD1
  have f2 : H D2 = none := free3 hD2
  have n12 : D1 ≠ D2 := fun e => by rw [e, upd_same] at hD2; cases hD2
  clear hH3 hD2 hD1
  have al3 : Al (D1 :: D2 :: S) H3 := .cons (by rw [r1]; simp) (.cons (by rw [r2]; simp) (hS.same sm3))
  have hXn : DqA (D1 :: D2 :: S) H3 xs (g.f.map codeD) := ((hX.new f2).new f1).same sm3
  have hsub : ∀ x, x ∈ [D1, D2] → x ∈ D1 :: D2 :: S := fun x m => by simp at m ⊢; exact m.elim .inl fun z => .inr (.inl z)
  have nbD : b ∉ [D1, D2] := by simp; exact ⟨fun e => (by rw [e, f1] at rb; cases rb), fun e => (by rw [e, f2] at rb; cases rb)⟩
  have naD : a ∉ [D1, D2] := by simp; exact ⟨fun e => (by rw [e, f1] at rA; cases rA), fun e => (by rw [e, f2] at rA; cases rA)⟩
  have rb3 := sm3 _ _ rb
  have rA3 := sm3 _ _ rA
  have hsame : ∀ {G : Hp}, Fr [D1, D2] H3 G → Same H G := fun {G} f x o e => f x o (fun m => by
    simp at m
    rcases m with rfl | rfl
    · rw [f1] at e; cases e
    · rw [f2] at e; cases e) (sm3 _ _ e)
  have hfree : ∀ {G : Hp} {dx : Addr}, Fr [D1, D2] H3 G → G dx = none → H dx = none := fun {G dx} f e => Same.free (hsame f) e
  walk_at "fl.w"
  refine forK_e (K := K) (xs := xs) (fun i σ' H' => ∃ u3 u4 u5 ys zs p, σ' = [some (.ref a), some (.ref D1), some (.ref D2), u3, u4, u5] ∧ mkR g.f i = .ok p ∧ H' D1 = some (.lst ys) ∧ H' D2 = some (.lst zs) ∧ DqA (D1 :: D2 :: S) H' ys (p.1.map tabD) ∧ DqA (D1 :: D2 :: S) H' zs (p.2.map coD) ∧ Fr [D1, D2] H3 H') ⟨_, _, _, [], [], ([], []), rfl, rfl, r1, r2, .nil, .nil, Fr.refl⟩ ?_ ?_ ?_
  · intro i σ' H' _ ⟨_, _, _, _, _, _, _, _, _, _, _, _, fr⟩
    exact SqL.of (fr _ _ nbD rb3)
  · intro i x Tt σ' H' hx ⟨u3, u4, u5, ys, zs, p, e, hmk, rD1, rD2, hY, hZ, fr⟩ hTt
    subst e
    have hix : i < g.f.length := by
      have := (List.getElem?_eq_some_iff.mp hx).1
      omega
    obtain ⟨l1, l2, gc, _⟩ := mkR_jud i p (by omega) hmk
    have hfi : g.f[i]? = some g.f[i] := List.getElem?_eq_getElem hix
    have hXg := hXn.fr (fr.mono hsub)
    obtain ⟨x', hx', dxc⟩ := hXg.getD (i := i) (d := codeD g.f[i]) (by rw [List.getElem?_map, hfi]; rfl)
    cases hx.symm.trans hx'
    have hco := ok.f _ (List.mem_of_getElem? hfi)
    have hmk1 : mkR g.f (i + 1) = match runT (lstF g.f[i] p.2 32) (tab0 g.f[i].length) g.f[i].length with
        | .error k => .error (i, k)
        | .ok t => .ok (p.1 ++ [t], p.2 ++ [(judP g.f[i] p.2 t).getD (0, 0, 0, 0)]) := by
      conv => lhs; unfold mkR
      rw [hmk]
      simp only [hfi]
      all_goals rfl
    generalize g.f[i] = cd at hfi dxc hco hmk1
    have alH : Al (D1 :: D2 :: S) H' := al3.fr fr (.cons (by rw [rD1]; simp) (.cons (by rw [rD2]; simp) .nil))
    refine g_gtup (SqT.of upd_same) rfl ?_
    walk_at "fl.w"
    have smT : Same H' (upd H' Tt (.tup [.int i, x])) := Fl.Same.new hTt
    have rD1T := smT _ _ rD1
    have rD2T := smT _ _ rD2
    have hYT := hY.same smT
    have hZT := hZ.same smT
    have alT := alH.same smT
    have alS : Al S (upd H' Tt (.tup [.int i, x])) := fun b m => alT b (by simp [m])
    have toS : ∀ x, x ∈ S → x ∈ D1 :: D2 :: S := fun x m => by simp [m]
    have nD1 : D1 ∉ S := hS.ni f1
    have nD2 : D2 ∉ S := hS.ni f2
    have dK : Dq S (upd H' Tt (.tup [.int i, x])) (.ref D2) (costsD p.2) := .lst nD2 rD2T (hZT.mono toS)
    have dC : Dq S (upd H' Tt (.tup [.int i, x])) x (codeD cd) := (dxc.same smT).mono toS
    have cok := gc.ok (by omega)
    refine ⟨S, x, .ref D2, cd, p.2, (i : Int), 32, rfl, alS, dC, dK, hco, cok, by omega, fun t ht D H4 hD sm4 dT => ?_, fun k hk dx H4 hdx sm4 rdx => ?_⟩
    · rw [ht] at hmk1
      obtain ⟨co, hcj, _⟩ := made_judP (by decide) (by decide) gc.lo ht
      simp only [hcj, Option.getD_some] at hmk1
      have rD1' := sm4 _ _ rD1T
      have rD2' := sm4 _ _ rD2T
      have nDD1 : D ≠ D1 := fun e => by rw [e, rD1T] at hD; cases hD
      have nDD2 : D ≠ D2 := fun e => by rw [e, rD2T] at hD; cases hD
      have lys := hY.len
      have lzs := hZ.len
      rw [List.length_map] at lys lzs
      have dT2 : Dq (D1 :: D2 :: S) H4 (.ref D) (tabD t) := tab_more (tab_more dT nDD2 rD2') nDD1 rD1'
      obtain ⟨_, ts, e, _, rD, hTs⟩ := dT2.lstE
      cases e
      have lts := hTs.len
      rw [List.length_map] at lts
      have hts : t.length = cd.length + 1 := by
        have := (made_run (made0 cd p.2 32) cd.length t (Nat.le_refl _) ht).1.len
        exact this
      have hz2 := hco.z
      obtain ⟨H5, hH5⟩ : ∃ H5 : Hp, H5 = upd H4 D1 (.lst (ys ++ [.ref D])) := ⟨_, rfl⟩
      have fr5 : Fr [D1, D2] H4 H5 := by rw [hH5]; exact Fr.upd (by simp)
      have r15 : H5 D1 = some (.lst (ys ++ [.ref D])) := by rw [hH5]; exact upd_same
      have r25 : H5 D2 = some (.lst zs) := by rw [hH5, upd_ne (Ne.symm n12)]; exact rD2'
      walk_at "fl.w"
      rw [← hH5]
      walk_at "fl.w"
      have al5 : Al (D1 :: D2 :: S) H5 := (alT.same sm4).fr fr5 (.cons (by rw [r15]; simp) (.cons (by rw [r25]; simp) .nil))
      have al5S : Al S H5 := fun b m => al5 b (toS b m)
      have dT5 := dT2.fr (fr5.mono hsub)
      have hZ5 := (hZT.same sm4).fr (fr5.mono hsub)
      have hY5 := (hYT.same sm4).fr (fr5.mono hsub)
      have dC5 := (((dxc.same smT).same sm4).fr (fr5.mono hsub)).mono toS
      refine spD_app S [codeD cd, costsD p.2, tabD t] (ocD (judP cd p.2 t)) al5S (.cons dC5 (.cons (.lst nD2 r25 (hZ5.mono toS)) (.cons (dT5.mono toS) .nil))) ⟨cd, p.2, t, rfl, hco, cok, by omega, rfl⟩ (fun vj H6 sm6 dj => ?_)
      rw [hcj] at dj
      have r16 := sm6 _ _ r15
      have r26 := sm6 _ _ r25
      have dj2 : Dq (D1 :: D2 :: S) H6 vj (coD co) := co_more (co_more dj r26) r16
      walk_at "fl.w"
      have fu : Fr (D1 :: D2 :: S) H6 (upd H6 D2 (.lst (zs ++ [vj]))) := Fr.upd (by simp)
      refine ⟨_, _, _, ys ++ [.ref D], zs ++ [vj], _, rfl, hmk1, by rw [upd_ne n12]; exact r16, upd_same, ?_, ?_, ?_⟩
      · rw [List.map_append]
        exact ((hY5.same sm6).app (.one (dT5.same sm6))).fr fu
      · rw [List.map_append]
        exact ((hZ5.same sm6).app (.one dj2)).fr fu
      · exact ((((fr.trans (Fr.same smT)).trans (Fr.same sm4)).trans fr5).trans (Fr.same sm6)).trans (Fr.upd (by simp))
    · exact qe ((i : Int), (k : Int)) (by
        unfold allM
        rw [hk] at hmk1
        have z := mkR_err hmk1 (g.f.length - (i + 1))
        rw [show i + 1 + (g.f.length - (i + 1)) = g.f.length by omega] at z
        rw [z]) dx H4 (Same.free ((hsame fr).trans smT) hdx) (((hsame fr).trans smT).trans sm4) rdx
  · intro σ' H' ⟨u3, u4, u5, ys, zs, p, e, hmk, rD1, rD2, hY, hZ, fr⟩
    subst e
    rw [lx] at hmk
    obtain ⟨l1, l2, gc, _⟩ := mkR_jud _ p (Nat.le_refl _) hmk
    have alH : Al (D1 :: D2 :: S) H' := al3.fr fr (.cons (by rw [rD1]; simp) (.cons (by rw [rD2]; simp) .nil))
    have alS : Al S H' := fun b m => alH b (by simp [m])
    have toS : ∀ x, x ∈ S → x ∈ D1 :: D2 :: S := fun x m => by simp [m]
    have nD2 : D2 ∉ S := hS.ni f2
    have nD1 : D1 ∉ S := hS.ni f1
    have rA' := fr _ _ naD rA3
    have h1' : Dq (D1 :: D2 :: S) H' v1 (codeD g.m) := (((h1.new f2).new f1).same sm3).fr (fr.mono hsub)
    have cok := gc.ok (by omega)
    have lys := hY.len
    rw [List.length_map] at lys
    walk_at "fl.w"
    refine ⟨S, v1, .ref D2, g.m, p.2, -1, 0, rfl, alS, h1'.mono toS, .lst nD2 rD2 (hZ.mono toS), ok.m, cok, by decide, fun t ht D H4 hD sm4 dT => ?_, fun k hk dx H4 hdx sm4 rdx => ?_⟩
    · have rD1' := sm4 _ _ rD1
      walk_at "fl.w"
      rename_i lA hlA lB hlB
      have smE := (Fl.Same.new (o := .lst [V.ref D]) hlA).trans (Fl.Same.new (o := .lst (ys ++ [.ref D])) hlB)
      refine qo (p.1 ++ [t]) (by unfold allM; rw [hmk]; simp only [ht]) _ _ (((hsame fr).trans sm4).trans smE) ?_
      refine .lst ((alS.same sm4).ni (free3 hlB)) upd_same ?_
      rw [List.map_append]
      exact (((hY.mono toS).same sm4).same smE).app (.one (dT.same smE))
    · exact qe (-1, (k : Int)) (by unfold allM; rw [hmk]; simp only [hk]) dx H4 (Same.free (hsame fr) hdx) ((hsame fr).trans sm4) rdx
end

section
variable {P : Program} {w : World} {K : PySem.W.Frag} {mg : Str → Option Value} {base : Heap}
theorem forK_zm {a b : Addr} {xs ys : List V} {g : TG} {tb : TS} {D : Ends} {σ : L2.St} {H : Hp} (n : Nat) (hn : n = min xs.length ys.length) (Pv : Nat → L2.St → Hp → Prop) (h0 : Pv 0 σ H) (hq : ∀ i σ H, Pv i σ H → SqL K H a xs ∧ SqL K H b ys)
    (hs : ∀ (i : Nat) (x y : V) (T : Addr) (σ : L2.St) (H : Hp), xs[i]? = some x → ys[i]? = some y → Pv i σ H → H T = none → g (.ref T) σ (upd H T (.tup [x, y])) fun σ2 H2 => tb { D with nx := Pv (i + 1), ct := Pv (i + 1), bk := D.nx } σ2 H2)
    (hd : ∀ σ H, Pv n σ H → D.nx σ H) : forK (Itz K a b) g tb D σ H := by
  refine ⟨fun i m σ H => m = n - i ∧ i ≤ n ∧ Pv i σ H, ⟨n, rfl, Nat.zero_le _, h0⟩, fun i m σ H h => ?_⟩
  obtain ⟨rfl, hi, p⟩ := h
  obtain ⟨q1, q2⟩ := hq i σ H p
  by_cases hlt : i < n
  · refine .inr ⟨⟨xs, ys, xs[i]'(by omega), ys[i]'(by omega), q1, q2, List.getElem?_eq_getElem _, List.getElem?_eq_getElem _⟩, Pv (i + 1), fun σ' H' p' => ⟨n - (i + 1), by omega, rfl, hlt, p'⟩, fun x H' y => ?_⟩
    obtain ⟨T, x, y, rfl, hT, rfl, hx, hy⟩ := y
    exact hs i x y T σ H (hx xs q1) (hy ys q2) p hT
  · have e : i = n := by omega
    subst e
    exact .inl ⟨⟨xs, ys, q1, q2, by omega⟩, hd σ H p⟩
local macro_rules | `(tactic| walk_at "fl.t") => `(tactic| (with_reducible refine g_callS ?_))
local macro_rules | `(tactic| walk_at "fl.t") => `(tactic| (with_reducible refine g_chainW ?_))
local macro_rules | `(tactic| walk_at "fl.t") => `(tactic| (with_reducible refine g_ifE ?_))
local macro_rules | `(tactic| walk_at "fl.w") => `(tactic| repeat walk_at "fl.t")
def fJd (mg : Str → Option Value) (ds : List PyData) (d : PyData) : Prop := ∃ (g : Pg) (ts : List Tab), ds = [insD (adr mg "Program") g.F, tabsD ts] ∧ PgOk g ∧ ts.length < 900 ∧ (∀ t, t ∈ ts → t.length < 900) ∧ d = ocD (allJ g.f g.m ts)
theorem jdR_no {fs : List (List In)} {ts : List Tab} {i : Nat} (h : jdR fs ts i = none) : ∀ m, jdR fs ts (i + m) = none
  | 0 => h
  | m + 1 => by
    show jdR fs ts ((i + m) + 1) = _
    unfold jdR
    rw [jdR_no h m]
theorem jdR_costs {fs : List (List In)} {us : List Tab} : ∀ (k : Nat) (ds : List Co), k ≤ fs.length → jdR fs us k = some ds → ds.length = k ∧ ∀ d, d ∈ ds → d.2.2.2.natAbs ≤ 1000000
  | 0, ds, _, h => by
    unfold jdR at h
    cases h
    exact ⟨rfl, fun d m => nomatch m⟩
  | k + 1, ds, hk, h => by
    unfold jdR at h
    cases hr : jdR fs us k with
    | none => rw [hr] at h; cases h
    | some es =>
      obtain ⟨l, b⟩ := jdR_costs k es (by omega) hr
      rw [hr] at h
      simp only at h
      have hf : fs[k]? = some fs[k] := List.getElem?_eq_getElem (by omega)
      rw [hf] at h
      simp only at h
      generalize fs[k] = c at h hf
      cases ht : us[k]? with
      | none => rw [ht] at h; cases h
      | some t =>
        rw [ht] at h
        simp only at h
        cases hj : judP c es t with
        | none => rw [hj] at h; cases h
        | some co =>
          rw [hj] at h
          cases h
          refine ⟨by simp [l], fun d m => ?_⟩
          rcases List.mem_append.mp m with m | m
          · exact b d m
          · rw [List.mem_singleton.mp m]; exact judP_costs hj
theorem oc_more {S : List Addr} {H : Hp} {v : V} {c : Option Co} {X : Addr} {zs : List V} (h : Dq S H v (ocD c)) (hX : H X = some (.lst zs)) : Dq (X :: S) H v (ocD c) := by
  cases c with
  | none => cases h.nonE; exact .non
  | some c => exact co_more h hX
theorem ok_judge_tables (T : Txt K mg) (I : WoK K w mg) : Has P w K mg base 4 "judge_tables" ps_judge_tables (spD (fJd mg)) := by
  have h_judge_table := ok_judge_table (P := P) (w := w) (base := base) T I
  obtain ⟨e1, e2, m1, m2, c⟩ := T.c_Program
  have cl := c.cl
  have na := c.na
  refine has_of T.d_judge_tables sc_judge_tables bd_judge_tables (fun vs H Q E h => ?_) (fun f cdv A outer s H vs Q E hr h => ?_)
  · obtain ⟨S, ds, d, _, hd, ⟨g, ts, rfl, _⟩, _⟩ := h
    rw [hd.len]; rfl
  obtain ⟨S, ds, d, hS, hd, ⟨g, ts, rfl, ok, hts, htl, rfl⟩, q⟩ := h
  obtain ⟨v, _, rfl, hv, hd⟩ := hd.consE
  obtain ⟨vt, _, rfl, hvt, hd⟩ := hd.consE
  cases hd.nilE
  have hfl := ok.fl
  obtain ⟨a, dx, fs, rfl, nA, rA, hN⟩ := hv.insE
  obtain ⟨v1, fs, rfl, h1, hN⟩ := hN.consE
  obtain ⟨v2, fs, rfl, h2, hN⟩ := hN.consE
  obtain ⟨v3, fs, rfl, h3, hN⟩ := hN.consE
  obtain ⟨v4, fs, rfl, h4, hN⟩ := hN.consE
  cases hN.nilE
  obtain ⟨b, xs, rfl, nb, rb, hX⟩ := h2.lstE
  have lx := hX.len
  rw [List.length_map] at lx
  obtain ⟨bt, ys, rfl, nbt, rbt, hY⟩ := hvt.lstE
  have ly := hY.len
  rw [List.length_map] at ly
  refine ⟨_, (pss_cons (ps_if (PW.pt (pw_or (pt_cmpR op_gt (pe_callB (clLen (K := K) rfl) (by rfl) T.z_len (by decide +kernel) (pa_cons (peFld (K := K) rfl (pv 0) rfl) pa_nil)) (pe_gv (by rfl) T.g_MOST_CALLS) (nomark _)) (pw_or1 (pt_cmpR op_ne (pe_callB (clLen (K := K) rfl) (by rfl) T.z_len (by decide +kernel) (pa_cons (pv 1) pa_nil)) (pe_op op_add (pe_callB (clLen (K := K) rfl) (by rfl) T.z_len (by decide +kernel) (pa_cons (peFld (K := K) rfl (pv 0) rfl) pa_nil)) pe_int) (nomark _)))))
        (pss_one (ps_ret pe_non))
        pss_nil)
      (pss_cons (ps_set (i := 2) sc_judge_tables.nd rfl (.inl rfl) (pe_lst pa_nil))
      (pss_cons (ps_for PassesOwn.never rfl (pi_zip (by rfl) T.z_zip (pa_cons (peFld (K := K) rfl (pv 0) rfl) (pa_cons (pv 1) pa_nil))) (pgT (n := 2) (K := K) rfl (by rfl) (pgs_cons (pg_name (i := 3) sc_judge_tables.nd rfl (.inl rfl)) (pgs_cons (pg_name (i := 4) sc_judge_tables.nd rfl (.inl rfl)) pgs_nil)))
        (pss_cons (ps_set (i := 5) sc_judge_tables.nd rfl (.inl rfl) (pe_h h_judge_table (hr.mono (by decide)) (pa_cons (pv 3) (pa_cons (pv 2) (pa_cons (pv 4) pa_nil)))))
      (pss_cons (ps_if (pt_cmpR op_isN (pv 5) pe_non (nomark _))
        (pss_one (ps_ret pe_non))
        pss_nil)
      (pss_one (ps_expr (pe_bm PySem.F.plainAttrs_list PySem.F.slot_list_append PySem.F.type_list_append mt_append (pv 2) (pa_cons (pv 5) pa_nil)))))))
      (pss_cons (ps_set (i := 5) sc_judge_tables.nd rfl (.inl rfl) (pe_h h_judge_table (hr.mono (by decide)) (pa_cons (peFld (K := K) rfl (pv 0) rfl) (pa_cons (pv 2) (pa_cons (pe_ix (ixL (K := K) rfl) (pv 1) (pe_un un_neg pe_int) (fun _ _ => rfl)) pa_nil)))))
      (pss_one (ps_ret (pe_ifExp (PW.pt (pw_and (pt_cmpR op_notN (pv 5) pe_non (nomark _)) (pw_and1 (pt_cmpR op_eq (pe_ix (ixT (K := K) rfl) (pv 5) pe_int (fun _ _ => rfl)) pe_int (nomark _))))) (pv 5) pe_non))))))), ?_⟩
  walk_at "fl.w"
  refine g_ite (fun z => by exfalso; omega) (fun _ => ?_)
  walk_at "fl.w"
  by_cases hl : ts.length = g.f.length + 1
  case neg =>
    refine g_iteN (fun _ => ?_) (fun z => by exfalso; omega)
    walk_at "fl.w"
    refine q _ _ (Same.refl _) ?_
    rw [show allJ g.f g.m ts = none by unfold allJ; rw [if_neg hl]]
    exact .non
  refine g_iteN (fun z => by exfalso; omega) (fun _ => ?_)
  walk_at "fl.w"
  rename_i D hD
  have smD : Same H (upd H D (.lst [])) := Fl.Same.new hD
  have nD : D ∉ S := hS.ni hD
  have al3 : Al (D :: S) (upd H D (.lst [])) := .cons (by rw [upd_same]; simp) (hS.same smD)
  have hXn : DqA (D :: S) (upd H D (.lst [])) xs (g.f.map codeD) := (hX.new hD).same smD
  have hYn : DqA (D :: S) (upd H D (.lst [])) ys (ts.map tabD) := (hY.new hD).same smD
  have nbD : b ∉ [D] := by simp; exact fun e => (by rw [e, hD] at rb; cases rb)
  have nbtD : bt ∉ [D] := by simp; exact fun e => (by rw [e, hD] at rbt; cases rbt)
  have naD : a ∉ [D] := by simp; exact fun e => (by rw [e, hD] at rA; cases rA)
  have hsub : ∀ x, x ∈ [D] → x ∈ D :: S := fun x m => by simp at m ⊢; exact .inl m
  have toS : ∀ x, x ∈ S → x ∈ D :: S := fun x m => by simp [m]
  have hsame : ∀ {G : Hp}, Fr [D] (upd H D (.lst [])) G → Same H G := fun {G} f => sm_of hD (by
    intro x o m e
    refine f x o m ?_
    rw [upd_ne (by simpa using m)]
    exact e)
  have rb3 := smD _ _ rb
  have rbt3 := smD _ _ rbt
  have rA3 := smD _ _ rA
  walk_at "fl.w"
  refine forK_zm (K := K) (xs := xs) (ys := ys) g.f.length (by omega) (fun i σ' H' => ∃ u3 u4 u5 zs cs, σ' = [some (.ref a), some (.ref bt), some (.ref D), u3, u4, u5] ∧ jdR g.f ts i = some cs ∧ H' D = some (.lst zs) ∧ DqA (D :: S) H' zs (cs.map coD) ∧ Fr [D] (upd H D (.lst [])) H') ⟨_, _, _, [], [], rfl, rfl, upd_same, .nil, Fr.refl⟩ ?_ ?_ ?_
  · intro i σ' H' ⟨_, _, _, _, _, _, _, _, _, fr⟩
    exact ⟨SqL.of (fr _ _ nbD rb3), SqL.of (fr _ _ nbtD rbt3)⟩
  · intro i x y Tt σ' H' hx hy ⟨u3, u4, u5, zs, cs, e, hj, rD, hZ, fr⟩ hTt
    subst e
    have hix : i < g.f.length := by
      have := (List.getElem?_eq_some_iff.mp hx).1
      omega
    obtain ⟨l1, gc⟩ := jdR_costs i cs (by omega) hj
    have hfi : g.f[i]? = some g.f[i] := List.getElem?_eq_getElem hix
    have hti : ts[i]? = some ts[i] := List.getElem?_eq_getElem (by omega)
    obtain ⟨x', hx', dxc⟩ := (hXn.fr (fr.mono hsub)).getD (i := i) (d := codeD g.f[i]) (by rw [List.getElem?_map, hfi]; rfl)
    cases hx.symm.trans hx'
    obtain ⟨y', hy', dyt⟩ := (hYn.fr (fr.mono hsub)).getD (i := i) (d := tabD ts[i]) (by rw [List.getElem?_map, hti]; rfl)
    cases hy.symm.trans hy'
    have hco := ok.f _ (List.mem_of_getElem? hfi)
    have htn := htl _ (List.mem_of_getElem? hti)
    generalize g.f[i] = cd at hfi dxc hco
    generalize ts[i] = t at hti dyt htn
    have hj1 : jdR g.f ts (i + 1) = match judP cd cs t with | none => none | some co => some (cs ++ [co]) := by
      conv => lhs; unfold jdR
      rw [hj]
      simp only [hfi, hti]
      all_goals rfl
    have alH : Al (D :: S) H' := al3.fr fr (.cons (by rw [rD]; simp) .nil)
    have smT : Same H' (upd H' Tt (.tup [x, y])) := Fl.Same.new hTt
    have alS : Al S (upd H' Tt (.tup [x, y])) := fun b m => alH.same smT b (by simp [m])
    have rDT := smT _ _ rD
    refine g_gtup (SqT.of upd_same) rfl ?_
    walk_at "fl.w"
    refine spD_app S [codeD cd, costsD cs, tabD t] (ocD (judP cd cs t)) alS (.cons ((dxc.same smT).mono toS) (.cons (.lst nD rDT ((hZ.same smT).mono toS)) (.cons ((dyt.same smT).mono toS) .nil))) ⟨cd, cs, t, rfl, hco, ⟨by omega, gc⟩, htn, rfl⟩ (fun vj H6 sm6 dj => ?_)
    have rD6 := sm6 _ _ rDT
    have f6 := (fr.trans (Fr.same smT)).trans (Fr.same sm6)
    cases hjp : judP cd cs t with
    | none =>
      rw [hjp] at dj hj1
      cases dj.nonE
      walk_at "fl.w"
      refine g_ite (fun _ => ?_) (fun z => absurd rfl z)
      walk_at "fl.w"
      refine q _ _ (hsame f6) ?_
      have z := jdR_no hj1 (g.f.length - (i + 1))
      rw [show i + 1 + (g.f.length - (i + 1)) = g.f.length by omega] at z
      rw [show allJ g.f g.m ts = none by unfold allJ; rw [if_pos hl, z]]
      exact .non
    | some co =>
      rw [hjp] at dj hj1
      have dj2 := co_more dj rD6
      obtain ⟨ja, rfl, _, rj⟩ := coE dj
      walk_at "fl.w"
      refine g_ite (fun z => by cases z) (fun _ => ?_)
      have lzs := hZ.len
      rw [List.length_map] at lzs
      walk_at "fl.w"
      refine ⟨_, _, _, zs ++ [.ref ja], _, rfl, hj1, upd_same, ?_, f6.trans (Fr.upd (by simp))⟩
      rw [List.map_append]
      exact (((hZ.same smT).same sm6).app (.one dj2)).fr (Fr.upd (by simp))
  · intro σ' H' ⟨u3, u4, u5, zs, cs, e, hj, rD, hZ, fr⟩
    subst e
    obtain ⟨l1, gc⟩ := jdR_costs _ cs (Nat.le_refl _) hj
    have alH : Al (D :: S) H' := al3.fr fr (.cons (by rw [rD]; simp) .nil)
    have alS : Al S H' := fun b m => alH b (by simp [m])
    have hti : ts[g.f.length]? = some ts[g.f.length] := List.getElem?_eq_getElem (by omega)
    obtain ⟨y, hy, dyt⟩ := (hYn.fr (fr.mono hsub)).getD (i := g.f.length) (d := tabD ts[g.f.length]) (by rw [List.getElem?_map, hti]; rfl)
    have htn := htl _ (List.mem_of_getElem? hti)
    generalize ts[g.f.length] = t at hti dyt htn
    have ay : atI ys (-1) = some y := at_end (by rw [ly, hl]; exact hy)
    have rA' := fr _ _ naD rA3
    have rbt' := fr _ _ nbtD rbt3
    have h1' : Dq S H' v1 (codeD g.m) := (((h1.new hD).same smD).fr (fr.mono hsub)).mono toS
    have hJ : allJ g.f g.m ts = match judP g.m cs t with | none => none | some co => if co.1 = 0 then some co else none := by
      unfold allJ
      rw [if_pos hl, hj]
      simp only [hti]
      all_goals rfl
    walk_at "fl.w"
    refine spD_app S [codeD g.m, costsD cs, tabD t] (ocD (judP g.m cs t)) alS (.cons h1' (.cons (.lst nD rD (hZ.mono toS)) (.cons (dyt.mono toS) .nil))) ⟨g.m, cs, t, rfl, ok.m, ⟨by omega, gc⟩, htn, rfl⟩ (fun vj H6 sm6 dj => ?_)
    have sH := (hsame fr).trans sm6
    cases hjp : judP g.m cs t with
    | none =>
      rw [hjp] at dj hJ
      cases dj.nonE
      walk_at "fl.w"
      refine g_iteN (fun z => absurd rfl z) (fun _ => ?_)
      walk_at "fl.w"
      refine q _ _ sH ?_
      rw [hJ]
      exact .non
    | some co =>
      rw [hjp] at dj hJ
      have dj0 := dj
      obtain ⟨ja, rfl, _, rj⟩ := coE dj
      walk_at "fl.w"
      refine g_iteN (fun _ => ?_) (fun z => by cases z)
      walk_at "fl.w"
      refine g_ite (fun h0 => ?_) (fun h0 => ?_)
      · walk_at "fl.w"
        refine q _ _ sH ?_
        rw [hJ]
        simp only
        rw [if_pos h0]
        exact dj0
      · walk_at "fl.w"
        refine q _ _ sH ?_
        rw [hJ]
        simp only
        rw [if_neg h0]
        exact .non
end

section
variable {P : Program} {w : World} {K : PySem.W.Frag} {mg : Str → Option Value} {base : Heap}
local macro_rules | `(tactic| walk_at "fl.t") => `(tactic| (with_reducible refine g_chainW ?_))
local macro_rules | `(tactic| walk_at "fl.t") => `(tactic| (with_reducible refine g_ifE ?_))
local macro_rules | `(tactic| walk_at "fl.w") => `(tactic| repeat walk_at "fl.t")
theorem ljL_no {c : List In} {cs : List Co} {t : List (Option Pr)} {i : Nat} (h : ljL c cs t i = none) : ∀ k, ljL c cs t (i + k) = none
  | 0 => h
  | k + 1 => by
    show (ljL c cs t (i + k)).bind _ = none
    rw [ljL_no h k]
    rfl
theorem olE {S : List Addr} {H : Hp} {v : V} {c : Co} (h : Dq S H v (olD (some c))) : ∃ a, v = .ref a ∧ a ∉ S ∧ H a = some (.lst [.int c.1, .int c.2.1, .int c.2.2.1, .int c.2.2.2]) := by
  obtain ⟨t, ts, rfl, nt, ht, hT⟩ := Dq.lstE h
  obtain ⟨_, _, rfl, h1, hT⟩ := hT.consE
  obtain ⟨_, _, rfl, h2, hT⟩ := hT.consE
  obtain ⟨_, _, rfl, h3, hT⟩ := hT.consE
  obtain ⟨_, _, rfl, h4, hT⟩ := hT.consE
  cases hT.nilE
  cases h1.intE
  cases h2.intE
  cases h3.intE
  cases h4.intE
  exact ⟨t, rfl, nt, ht⟩
theorem beh_lca {r : In} {i n : Nat} {cs : List Co} {a : Co} (h0 : ∀ c, c ∈ cs → 0 ≤ c.1) (hi : i < n) (h : lcaP r ((n : Int) - i) cs = some a) : ∀ x, x ∈ behP r i → (i : Int) + 1 ≤ x ∧ x ≤ n := by
  rcases way_lca r ((n : Int) - i) (0, 0) cs h0 with ⟨z1, _⟩ | ⟨a, w, z1, z2, _⟩
  · rw [h] at z1; cases z1
  · exact beh_in hi z2
def fLj (ds : List PyData) (d : PyData) : Prop := ∃ (c : List In) (cs : List Co) (t : List (Option Pr)) (a : Int × Int) (z : Pr), ds = [codeD c, costsD cs, tabD t] ∧ CodeOk c ∧ CostsOk cs ∧ (∀ c, c ∈ cs → 0 ≤ c.1) ∧ begP c.length t = true ∧ ljL c cs t c.length = some a ∧ atT t (c.length : Int) = some z ∧ a.1 ≤ 32 ∧ a.2 ≤ 32 ∧ z.2 ≤ 4096 ∧ d = coD (a.1, z.1, a.2, z.2)
theorem ok_law_judged (T : Txt K mg) : Has P w K mg base 4 "_law_judged" ps_law_judged (spD fLj) := by
  have h_law_cost_at := ok_law_cost_at (P := P) (w := w) (base := base) T
  have h_law_next := ok_law_next (P := P) (w := w) (base := base) T
  refine has_of T.d_law_judged sc_law_judged bd_law_judged (fun vs H Q E h => ?_) (fun f cdv A outer s H vs Q E hr h => ?_)
  · obtain ⟨S, ds, d, _, hd, ⟨c, cs, t, a, z, rfl, _⟩, _⟩ := h
    rw [hd.len]; rfl
  obtain ⟨S, ds, d, hS, hd, ⟨c, cs, t, aa, zz, rfl, hc, hcs, hc0, hb, hlj, hz, k1, k2, k3, rfl⟩, q⟩ := h
  obtain ⟨vc, _, rfl, h1, hd⟩ := hd.consE
  obtain ⟨vk, _, rfl, h2, hd⟩ := hd.consE
  obtain ⟨vt, _, rfl, h3, hd⟩ := hd.consE
  cases hd.nilE
  have hcz := hc.z
  obtain ⟨a, xs, rfl, na, ra, hX⟩ := h1.lstE
  obtain ⟨b, ys, rfl, nb, rb, hY⟩ := h3.lstE
  have lx := hX.len
  have ly := hY.len
  rw [List.length_map] at lx ly
  have hb' := hb
  unfold begP at hb'
  simp only [Bool.and_eq_true, decide_eq_true_eq] at hb'
  obtain ⟨len, s0, _, z0, gd⟩ := hb'
  have hat : ∀ i : Nat, i < t.length → ∃ v it, atI ys (i : Int) = some v ∧ atT t (i : Int) = it ∧ t[i]? = some it ∧ Dq S H v (opD it) := fun i hi => by
    have hti : t[i]? = some t[i] := List.getElem?_eq_getElem hi
    obtain ⟨v, hv, dv⟩ := hY.getD (i := i) (d := opD t[i]) (by rw [List.getElem?_map, hti]; rfl)
    exact ⟨v, t[i], atI_nat hv, by unfold atT; rw [show ((i : Nat) : Int).toNat = i from rfl, hti]; rfl, hti, dv⟩
  obtain ⟨v0, i0, a0, e0, m0, d0⟩ := hat 0 (by omega)
  rw [show ((0 : Nat) : Int) = 0 from rfl] at a0 e0
  rw [e0] at s0 z0
  cases i0 with
  | none => cases s0
  | some p0 =>
  simp only [Option.getD_some] at z0
  obtain ⟨o0, rfl, no0, ro0⟩ := prE d0
  obtain ⟨vn, i_n, an, en, mn, dn⟩ := hat c.length (by omega)
  rw [hz] at en
  subst en
  obtain ⟨on, rfl, non, ron⟩ := prE dn
  have an' : atI ys (xs.length : Int) = some (.ref on) := by rw [lx]; exact an
  refine ⟨_, (pss_cons (ps_if (PW.pt (pw_or (pt_cmpR op_ne (pe_callB (clLen (K := K) rfl) (by rfl) T.z_len (by decide +kernel) (pa_cons (pv 2) pa_nil)) (pe_op op_add (pe_callB (clLen (K := K) rfl) (by rfl) T.z_len (by decide +kernel) (pa_cons (pv 0) pa_nil)) pe_int) (nomark _)) (pw_or (pt_cmpR op_isN (pe_ix (ixL (K := K) rfl) (pv 2) pe_int (fun _ _ => rfl)) pe_non (nomark _)) (pw_or (pt_cmpR op_ne (pe_ix (ixT (K := K) rfl) (pe_ix (ixL (K := K) rfl) (pv 2) pe_int (fun _ _ => rfl)) pe_int (fun _ _ => rfl)) pe_int (nomark _)) (pw_or1 (pt_cmpR op_isN (pe_ix (ixL (K := K) rfl) (pv 2) (pe_callB (clLen (K := K) rfl) (by rfl) T.z_len (by decide +kernel) (pa_cons (pv 0) pa_nil)) (fun _ _ => rfl)) pe_non (nomark _)))))))
        (pss_one (ps_ret pe_non))
        pss_nil)
      (pss_cons (ps_set (i := 3) sc_law_judged.nd rfl (.inl rfl) pe_int)
      (pss_cons (ps_set (i := 4) sc_law_judged.nd rfl (.inl rfl) pe_int)
      (pss_cons (ps_for PassesOwn.never rfl (pi_range1 (by rfl) T.z_range (pa_cons (pe_callB (clLen (K := K) rfl) (by rfl) T.z_len (by decide +kernel) (pa_cons (pv 2) pa_nil)) pa_nil)) (pg_name (i := 5) sc_law_judged.nd rfl (.inl rfl))
        (pss_one (ps_if (PW.pt (pw_and (pt_cmpR op_notN (pe_ix (ixL (K := K) rfl) (pv 2) (pv 5) (fun _ _ => rfl)) pe_non (nomark _)) (pw_and1 (pt_cmpR op_lt (pe_ix (ixT (K := K) rfl) (pe_ix (ixL (K := K) rfl) (pv 2) (pv 5) (fun _ _ => rfl)) pe_int (fun _ _ => rfl)) pe_int (nomark _)))))
        (pss_one (ps_ret pe_non))
        pss_nil)))
      (pss_cons (ps_for PassesOwn.never rfl (pi_range1 (by rfl) T.z_range (pa_cons (pe_callB (clLen (K := K) rfl) (by rfl) T.z_len (by decide +kernel) (pa_cons (pv 0) pa_nil)) pa_nil)) (pg_name (i := 5) sc_law_judged.nd rfl (.inl rfl))
        (pss_one (ps_if (pt_cmpR op_notN (pe_ix (ixL (K := K) rfl) (pv 2) (pv 5) (fun _ _ => rfl)) pe_non (nomark _))
        (pss_cons (ps_set (i := 6) sc_law_judged.nd rfl (.inl rfl) (pe_h h_law_cost_at (hr.mono (by decide)) (pa_cons (pv 0) (pa_cons (pv 1) (pa_cons (pv 5) pa_nil)))))
      (pss_cons (ps_if (pt_cmpR op_isN (pv 6) pe_non (nomark _))
        (pss_one (ps_ret pe_non))
        pss_nil)
      (pss_cons (ps_for PassesOwn.never rfl (piL (K := K) rfl (pe_h h_law_next (hr.mono (by decide)) (pa_cons (pv 0) (pa_cons (pv 5) pa_nil)))) (pg_name (i := 7) sc_law_judged.nd rfl (.inl rfl))
        (pss_cons (ps_set (i := 8) sc_law_judged.nd rfl (.inl rfl) (pe_ix (ixL (K := K) rfl) (pv 2) (pv 7) (fun _ _ => rfl)))
      (pss_one (ps_if (PW.pt (pw_or (pt_cmpR op_isN (pv 8) pe_non (nomark _)) (pw_or (pt_cmpR op_ne (pe_ix (ixT (K := K) rfl) (pv 8) pe_int (fun _ _ => rfl)) (pe_op op_add (pe_ix (ixT (K := K) rfl) (pe_ix (ixL (K := K) rfl) (pv 2) (pv 5) (fun _ _ => rfl)) pe_int (fun _ _ => rfl)) (pe_ix (ixL (K := K) rfl) (pv 6) pe_int (fun _ _ => rfl))) (nomark _)) (pw_or1 (pt_cmpR op_lt (pe_ix (ixT (K := K) rfl) (pv 8) pe_int (fun _ _ => rfl)) (pe_op op_add (pe_ix (ixT (K := K) rfl) (pe_ix (ixL (K := K) rfl) (pv 2) (pv 5) (fun _ _ => rfl)) pe_int (fun _ _ => rfl)) (pe_ix (ixL (K := K) rfl) (pv 6) pe_int (fun _ _ => rfl))) (nomark _))))))
        (pss_one (ps_ret pe_non))
        pss_nil))))
      (pss_cons (ps_set (i := 3) sc_law_judged.nd rfl (.inl rfl) (pe_callB (call_max' rfl) (by rfl) T.z_max (by decide +kernel) (pa_cons (pv 3) (pa_cons (pe_op op_sub (pe_ix (ixL (K := K) rfl) (pv 6) pe_int (fun _ _ => rfl)) (pe_ix (ixT (K := K) rfl) (pe_ix (ixL (K := K) rfl) (pv 2) (pv 5) (fun _ _ => rfl)) pe_int (fun _ _ => rfl))) pa_nil))))
      (pss_one (ps_set (i := 4) sc_law_judged.nd rfl (.inl rfl) (pe_callB (call_max' rfl) (by rfl) T.z_max (by decide +kernel) (pa_cons (pv 4) (pa_cons (pe_op op_add (pe_ix (ixL (K := K) rfl) (pv 6) pe_int (fun _ _ => rfl)) (pe_ix (ixT (K := K) rfl) (pe_ix (ixL (K := K) rfl) (pv 2) (pv 5) (fun _ _ => rfl)) pe_int (fun _ _ => rfl))) pa_nil)))))))))
        pss_nil)))
      (pss_cons (ps_set (i := 9) sc_law_judged.nd rfl (.inl rfl) (pe_tup (pa_cons (pv 3) (pa_cons (pe_ix (ixT (K := K) rfl) (pe_ix (ixL (K := K) rfl) (pv 2) (pe_callB (clLen (K := K) rfl) (by rfl) T.z_len (by decide +kernel) (pa_cons (pv 0) pa_nil)) (fun _ _ => rfl)) pe_int (fun _ _ => rfl)) (pa_cons (pv 4) (pa_cons (pe_ix (ixT (K := K) rfl) (pe_ix (ixL (K := K) rfl) (pv 2) (pe_callB (clLen (K := K) rfl) (by rfl) T.z_len (by decide +kernel) (pa_cons (pv 0) pa_nil)) (fun _ _ => rfl)) pe_int (fun _ _ => rfl)) pa_nil))))))
      (pss_cons (ps_if (PW.pt (pw_or (pt_cmpR op_gt (pe_callB (call_max' rfl) (by rfl) T.z_max (by decide +kernel) (pa_cons (pv 3) (pa_cons (pv 4) pa_nil))) pe_int (nomark _)) (pw_or1 (pt_cmpR op_gt (pe_ix (ixT (K := K) rfl) (pv 9) pe_int (fun _ _ => rfl)) pe_int (nomark _)))))
        (pss_one (ps_ret pe_non))
        pss_nil)
      (pss_one (ps_ret (pv 9)))))))))), ?_⟩
  walk_at "fl.w"
  refine g_iteN (fun z => by exfalso; omega) (fun _ => ?_)
  walk_at "fl.w"
  refine g_ite (fun z => by cases z) (fun _ => ?_)
  walk_at "fl.w"
  refine g_iteN (fun z => absurd z0 z) (fun _ => ?_)
  walk_at "fl.w"
  refine g_ite (fun z => by cases z) (fun _ => ?_)
  walk_at "fl.w"
  refine forK_r (fun i σ' H' => ∃ u5 u6 u7 u8 u9, σ' = [some (.ref a), some vk, some (.ref b), some (.int 0), some (.int 0), u5, u6, u7, u8, u9] ∧ H' = H) ⟨_, _, _, _, _, rfl, rfl⟩ ?_ ?_
  · intro i σ' H' hi ⟨u5, u6, u7, u8, u9, e, e2⟩
    subst e e2
    obtain ⟨v, it, av, _, mi, dv⟩ := hat i (by omega)
    have good := List.all_eq_true.mp gd it (List.mem_of_getElem? mi)
    rw [show (0 : Int) + (i : Int) = (i : Int) by omega]
    walk_at "fl.w"
    cases it with
    | none =>
      cases dv.nonE
      refine g_iteN (fun z => absurd rfl z) (fun _ => ?_)
      walk_at "fl.w"
      exact ⟨_, _, _, _, _, rfl, rfl⟩
    | some p =>
      obtain ⟨o, rfl, no, ro⟩ := prE dv
      have good : p.2 ≥ 0 := of_decide_eq_true good
      refine g_iteN (fun _ => ?_) (fun z => by cases z)
      walk_at "fl.w"
      refine g_ite (fun z => by exfalso; omega) (fun _ => ?_)
      walk_at "fl.w"
      exact ⟨_, _, _, _, _, rfl, rfl⟩
  intro σ' H' ⟨u5, u6, u7, u8, u9, e, e2⟩
  subst e e2
  walk_at "fl.w"
  refine forK_r (fun i σ' G => ∃ n k u5 u6 u7 u8 u9, σ' = [some (.ref a), some vk, some (.ref b), some (.int n), some (.int k), u5, u6, u7, u8, u9] ∧ ljL c cs t i = some (n, k) ∧ Same H' G) ⟨0, 0, _, _, _, _, _, rfl, rfl, Same.refl _⟩ ?_ ?_
  · intro i σ' G hi ⟨n, k, u5, u6, u7, u8, u9, e, hj, sm⟩
    subst e
    have hi2 : i < c.length := by omega
    have hci : c[i]? = some c[i] := List.getElem?_eq_getElem hi2
    obtain ⟨v, it, av, ei, mi, dv⟩ := hat i (by omega)
    have dv := dv.same sm
    have ra' := sm _ _ ra
    have rb' := sm _ _ rb
    have alG := hS.same sm
    have dC : Dq S G (.ref a) (codeD c) := h1.same sm
    have dK := h2.same sm
    have hmem := List.mem_of_getElem? hci
    generalize hr : c[i] = r at hci hmem
    have hL : ljL c cs t (i + 1) = ljF c cs t i (n, k) := by
      show (ljL c cs t i).bind _ = _
      rw [hj]
      rfl
    have hyes : ∃ x, ljL c cs t (i + 1) = some x := by
      cases h : ljL c cs t (i + 1) with
      | some x => exact ⟨x, rfl⟩
      | none =>
        have z := ljL_no h (c.length - (i + 1))
        rw [show i + 1 + (c.length - (i + 1)) = c.length by omega, hlj] at z
        cases z
    obtain ⟨nk, hnk⟩ := hyes
    rw [hL] at hnk
    unfold ljF at hnk
    simp only [hci, ei] at hnk
    rw [show (0 : Int) + (i : Int) = (i : Int) by omega]
    walk_at "fl.w"
    cases it with
    | none =>
      cases dv.nonE
      refine g_iteN (fun z => absurd rfl z) (fun _ => ?_)
      walk_at "fl.w"
      refine ⟨n, k, _, _, _, _, _, rfl, ?_, sm⟩
      rw [hL]
      unfold ljF
      simp only [hci, ei]
    | some p =>
      simp only at hnk
      obtain ⟨o, rfl, no, ro⟩ := prE dv
      refine g_iteN (fun _ => ?_) (fun z => by cases z)
      walk_at "fl.w"
      refine spD_app S [codeD c, costsD cs, .int i] (olD (lcaP r ((c.length : Int) - i) cs)) alG (.cons dC (.cons dK (.cons (.int _) .nil))) ⟨c, cs, i, r, rfl, hci, hc, hcs, rfl⟩ (fun vw H3 sm3 dw => ?_)
      cases hw : lcaP r ((c.length : Int) - i) cs with
      | none => rw [hw] at hnk; cases hnk
      | some la =>
        rw [hw] at hnk dw
        simp only at hnk
        have hall : ((behP r i).all fun x => folP (atT t x) (p.1 + la.2.1, p.2 + la.2.2.2, 0, 0)) = true := by
          cases h : ((behP r i).all fun x => folP (atT t x) (p.1 + la.2.1, p.2 + la.2.2.2, 0, 0)) with
          | true => rfl
          | false => rw [h] at hnk; simp at hnk
        rw [if_pos hall] at hnk
        obtain ⟨wa, rfl, nw, rw'⟩ := olE dw
        have hbeh := beh_lca hc0 hi2 hw
        walk_at "fl.w"
        refine g_ite (fun z => by cases z) (fun _ => ?_)
        walk_at "fl.w"
        refine spD_app S [codeD c, .int i] (.list ((behP r i).map PyData.int)) (alG.same sm3) (.cons (dC.same sm3) (.cons (.int _) .nil)) ⟨c, i, r, rfl, by omega, hci, rfl⟩ (fun vp H4 sm4 dp => ?_)
        obtain ⟨pa, ps, rfl, npa, rpa, hP⟩ := dp.lstE
        cases ints_of hP
        have rw4 := sm4 _ _ rw'
        have ro4 := (sm3.trans sm4) _ _ ro
        have rb4 := (sm3.trans sm4) _ _ rb'
        have smA := (sm.trans sm3).trans sm4
        walk_at "fl.w"
        refine forK_l (xs := (behP r i).map V.int) (fun j σ2 G2 => ∃ u7 u8 u9, σ2 = [some (.ref a), some vk, some (.ref b), some (.int n), some (.int k), some (.int i), some (.ref wa), u7, u8, u9] ∧ G2 = H4) ⟨_, _, _, rfl, rfl⟩ ?_ ?_ ?_
        · intro j σ2 G2 _ ⟨_, _, _, _, e2⟩
          subst e2
          exact SqL.of rpa
        · intro j x σ2 G2 hx ⟨u7, u8, u9, e, e2⟩
          subst e e2
          rw [List.getElem?_map] at hx
          cases hbj : (behP r i)[j]? with
          | none => rw [hbj] at hx; cases hx
          | some y =>
            rw [hbj] at hx
            cases hx
            have my := List.mem_of_getElem? hbj
            obtain ⟨y0, y1⟩ := hbeh y my
            obtain ⟨vy, iy, ay, ey, _, dy⟩ := hat y.toNat (by omega)
            rw [show ((y.toNat : Nat) : Int) = y by omega] at ay ey
            have fo := List.all_eq_true.mp hall y my
            rw [ey] at fo
            cases iy with
            | none => cases fo
            | some py =>
              unfold folP at fo
              simp only [Bool.and_eq_true, decide_eq_true_eq, Bool.not_eq_true', decide_eq_false_iff_not] at fo
              obtain ⟨oy, rfl, noy, roy⟩ := prE (dy.same smA)
              walk_at "fl.w"
              refine g_ite (fun z => by cases z) (fun _ => ?_)
              walk_at "fl.w"
              refine g_iteN (fun z => by exfalso; omega) (fun _ => ?_)
              walk_at "fl.w"
              refine g_ite (fun z => by exfalso; omega) (fun _ => ?_)
              walk_at "fl.w"
              exact ⟨_, _, _, rfl, rfl⟩
        · intro σ2 G2 ⟨u7, u8, u9, e, e2⟩
          subst e e2
          walk_at "fl.w"
          refine ⟨max n (la.1 - p.1), max k (la.2.2.1 + p.1), _, _, _, _, _, by rw [mx_if, mx_if]; rfl, ?_, smA⟩
          rw [hL]
          unfold ljF
          simp only [hci, ei, hw]
          rw [if_pos hall]
  · intro σ' G ⟨n, k, u5, u6, u7, u8, u9, e, hj, sm⟩
    subst e
    rw [lx, show ((c.length : Nat) : Int).toNat = c.length from rfl, hlj] at hj
    cases hj
    have rb' := sm _ _ rb
    have ra' := sm _ _ ra
    have ron' := sm _ _ ron
    walk_at "fl.w"
    rename_i tt htt
    refine g_ite (fun z => by exfalso; simp only at k1 k2; split at z <;> omega) (fun _ => ?_)
    walk_at "fl.w"
    refine g_ite (fun z => by exfalso; omega) (fun _ => ?_)
    walk_at "fl.w"
    exact q _ _ (sm.trans (Fl.Same.new htt)) (show Dq S _ _ (.tuple [.int _, .int _, .int _, .int _]) from .tup ((hS.same sm).ni htt) upd_same (.cons (.int _) (.cons (.int _) (.cons (.int _) (.cons (.int _) .nil)))))
end

section
variable {P : Program} {w : World} {K : PySem.W.Frag} {mg : Str → Option Value} {base : Heap}
local macro_rules | `(tactic| walk_at "fl.t") => `(tactic| (with_reducible refine g_chainW ?_))
local macro_rules | `(tactic| walk_at "fl.t") => `(tactic| (with_reducible refine g_gsub ?_))
local macro_rules | `(tactic| walk_at "fl.t") => `(tactic| (with_reducible refine g_ifE ?_))
local macro_rules | `(tactic| walk_at "fl.w") => `(tactic| repeat walk_at "fl.t")
theorem nones_dq {S T : List Addr} {G H : Hp} : ∀ (n : Nat) {zs : List V}, DqA S G zs (List.replicate n .none) → DqA T H zs (List.replicate n .none)
  | 0, _, h => by cases h; exact .nil
  | n + 1, _, h => by
    rw [List.replicate_succ] at h ⊢
    obtain ⟨y, zs, rfl, hy, hZ⟩ := h.consE
    cases hy.nonE
    exact .cons .non (nones_dq n hZ)
def spMd : Sp := fun vs H Q _ => ∃ (S : List Addr) (vc vk : V) (c : List In) (cs : List Co) (most : Int), vs = [vc, vk, .int most] ∧ Al S H ∧ Dq S H vc (codeD c) ∧ Dq S H vk (costsD cs) ∧ CodeOk c ∧ CostsOk cs ∧ (∀ c, c ∈ cs → 0 ≤ c.1) ∧
  (∀ t, runT (mdF c cs most) (tab0 c.length) c.length = .ok t → ∀ D H', H D = none → Same H H' → Dq S H' (.ref D) (tabD t) → Q (.ref D) H') ∧
  (∀ i : Nat, i < c.length → runT (mdF c cs most) (tab0 c.length) c.length = .error i → ∀ H', Same H H' → Q (.int i) H')
theorem ok_law_made_table (T : Txt K mg) : Has P w K mg base 4 "_law_made_table" ps_law_made_table spMd := by
  have h_law_cost_at := ok_law_cost_at (P := P) (w := w) (base := base) T
  have h_law_next := ok_law_next (P := P) (w := w) (base := base) T
  refine has_of T.d_law_made_table sc_law_made_table bd_law_made_table (fun vs H Q E h => ?_) (fun f cdv A outer s H vs Q E hr h => ?_)
  · obtain ⟨S, vc, vk, c, cs, most, rfl, _⟩ := h
    rfl
  obtain ⟨S, vc, vk, c, cs, most, rfl, hS, h1, h2, hc, hcs, hc0, qo, qe⟩ := h
  have hz := hc.z
  obtain ⟨a, xs, rfl, na, ra, hX⟩ := h1.lstE
  have lx := hX.len
  rw [List.length_map] at lx
  refine ⟨_, (pss_cons (ps_setLc (i := 3) (own := [("k", 10)]) rfl sc_law_made_table.nd rfl rfl (sw_true rfl rfl rfl (by decide +kernel)) (pi_range1 (by rfl) T.z_range (pa_cons (pe_op op_add (pe_callB (clLen (K := K) rfl) (by rfl) T.z_len (by decide +kernel) (pa_cons (pv 0) pa_nil)) pe_int) pa_nil)) (blkOk_by (by kernel_rfl)) (fun _ _ _ _ _ => (pg_name (i := 10) sc_law_made_table.nd rfl (.inl rfl))) (fun _ _ _ _ _ => pts_nil) (fun _ _ _ _ _ => pe_non))
      (pss_cons (ps_asg (pe_tup (pa_cons pe_int (pa_cons pe_int pa_nil))) (pg_sub (pv 3) pe_int set_list))
      (pss_cons (ps_for PassesOwn.never rfl (pi_range1 (by rfl) T.z_range (pa_cons (pe_callB (clLen (K := K) rfl) (by rfl) T.z_len (by decide +kernel) (pa_cons (pv 0) pa_nil)) pa_nil)) (pg_name (i := 4) sc_law_made_table.nd rfl (.inl rfl))
        (pss_one (ps_if (pt_cmpR op_notN (pe_ix (ixL (K := K) rfl) (pv 3) (pv 4) (fun _ _ => rfl)) pe_non (nomark _))
        (pss_cons (ps_set (i := 5) sc_law_made_table.nd rfl (.inl rfl) (pe_ix (ixT (K := K) rfl) (pe_ix (ixL (K := K) rfl) (pv 3) (pv 4) (fun _ _ => rfl)) pe_int (fun _ _ => rfl)))
      (pss_cons (ps_set (i := 6) sc_law_made_table.nd rfl (.inl rfl) (pe_h h_law_cost_at (hr.mono (by decide)) (pa_cons (pv 0) (pa_cons (pv 1) (pa_cons (pv 4) pa_nil)))))
      (pss_cons (ps_if (PW.pt (pw_or (pt_cmpR op_isN (pv 6) pe_non (nomark _)) (pw_or (pt_cmpR op_gt (pe_op op_sub (pe_ix (ixL (K := K) rfl) (pv 6) pe_int (fun _ _ => rfl)) (pv 5)) (pv 2) (nomark _)) (pw_or (pt_cmpR op_gt (pe_op op_add (pe_ix (ixL (K := K) rfl) (pv 6) pe_int (fun _ _ => rfl)) (pv 5)) pe_int (nomark _)) (pw_or1 (pt_cmpR op_gt (pe_op op_add (pe_ix (ixT (K := K) rfl) (pe_ix (ixL (K := K) rfl) (pv 3) (pv 4) (fun _ _ => rfl)) pe_int (fun _ _ => rfl)) (pe_ix (ixL (K := K) rfl) (pv 6) pe_int (fun _ _ => rfl))) pe_int (nomark _)))))))
        (pss_one (ps_ret (pv 4)))
        pss_nil)
      (pss_one (ps_for PassesOwn.never rfl (piL (K := K) rfl (pe_h h_law_next (hr.mono (by decide)) (pa_cons (pv 0) (pa_cons (pv 4) pa_nil)))) (pg_name (i := 7) sc_law_made_table.nd rfl (.inl rfl))
        (pss_cons (ps_set (i := 8) sc_law_made_table.nd rfl (.inl rfl) (pe_ix (ixL (K := K) rfl) (pv 3) (pv 7) (fun _ _ => rfl)))
      (pss_cons (ps_set (i := 9) sc_law_made_table.nd rfl (.inl rfl) (pe_op op_add (pe_ix (ixT (K := K) rfl) (pe_ix (ixL (K := K) rfl) (pv 3) (pv 4) (fun _ _ => rfl)) pe_int (fun _ _ => rfl)) (pe_ix (ixL (K := K) rfl) (pv 6) pe_int (fun _ _ => rfl))))
      (pss_cons (ps_if (PW.pt (pw_and (pt_cmpR op_notN (pv 8) pe_non (nomark _)) (pw_and1 (pt_cmpR op_ne (pe_ix (ixT (K := K) rfl) (pv 8) pe_int (fun _ _ => rfl)) (pe_op op_add (pv 5) (pe_ix (ixL (K := K) rfl) (pv 6) pe_int (fun _ _ => rfl))) (nomark _)))))
        (pss_one (ps_ret (pv 4)))
        pss_nil)
      (pss_one (ps_if (PW.pt (pw_or (pt_cmpR op_isN (pv 8) pe_non (nomark _)) (pw_or1 (pt_cmpR op_lt (pe_ix (ixT (K := K) rfl) (pv 8) pe_int (fun _ _ => rfl)) (pv 9) (nomark _)))))
        (pss_one (ps_asg (pe_tup (pa_cons (pe_op op_add (pv 5) (pe_ix (ixL (K := K) rfl) (pv 6) pe_int (fun _ _ => rfl))) (pa_cons (pv 9) pa_nil))) (pg_sub (pv 3) (pv 7) set_list)))
        pss_nil))))))))))
        pss_nil)))
      (pss_one (ps_ret (pv 3)))))), ?_⟩
  walk_at "fl.w"
  refine lcR (S := S) (fun _ => some .none) hS (by omega) ?_ ?_
  · intro D i H2 hD hi sm al R N hR hN
    refine g_name ⟨rfl, ?_⟩
    walk_at "fl.w"
    exact hR _ _ _ rfl (Same.refl _) .non
  intro D H1 sm1 fD hD
  have erep : (List.range ((xs.length : Int) + 1).toNat).filterMap (fun _ => some PyData.none) = PyData.none :: List.replicate c.length PyData.none := by
    rw [show ((xs.length : Int) + 1).toNat = c.length + 1 by omega, ← List.replicate_succ]
    generalize c.length + 1 = n
    induction n with
    | zero => rfl
    | succ n ih => rw [List.range_succ, List.filterMap_append, ih, List.replicate_succ']; rfl
  rw [erep] at hD
  obtain ⟨_, ys0, e, nD, rD0, hY0⟩ := hD.lstE
  cases e
  have ly0 := hY0.len
  obtain ⟨y0, ys1, rfl, _, hY1⟩ := hY0.consE
  rw [List.length_cons, List.length_cons, List.length_replicate] at ly0
  walk_at "fl.w"
  rename_i p0 hp0
  refine g_setL (raw_new hp0 rD0) (j := 0) (by unfold ixN; rw [if_pos (by decide), if_pos (by rw [List.length_cons]; omega)]; rfl) ?_
  obtain ⟨H3, hH3⟩ : ∃ H3 : Hp, H3 = upd (upd H1 p0 (.tup [.int 0, .int 0])) D (.lst ((y0 :: ys1).set 0 (.ref p0))) := ⟨_, rfl⟩
  rw [← hH3]
  have nD0 : p0 ≠ D := fun e => by rw [e, rD0] at hp0; cases hp0
  have rD : H3 D = some (.lst (.ref p0 :: ys1)) := by rw [hH3]; exact upd_same
  have rp0 : H3 p0 = some (.tup [.int 0, .int 0]) := by rw [hH3, upd_ne nD0]; exact upd_same
  have fr3 : Fr [D] H1 H3 := by rw [hH3]; exact (Fr.same (Fl.Same.new hp0)).trans (Fr.upd (by simp))
  have fp0 : p0 ∉ S := (hS.same sm1).ni hp0
  have al1 : Al (D :: S) H1 := .cons (by rw [rD0]; simp) (hS.same sm1)
  have al3 : Al (D :: S) H3 := al1.fr fr3 (.cons (by rw [rD]; simp) .nil)
  have hsub : ∀ x, x ∈ [D] → x ∈ D :: S := fun x m => by simp at m ⊢; exact .inl m
  have dC : Dq (D :: S) H3 (.ref a) (codeD c) := ((h1.new fD).same sm1).fr (fr3.mono hsub)
  have dK : Dq (D :: S) H3 vk (costsD cs) := ((h2.new fD).same sm1).fr (fr3.mono hsub)
  have dT0 : DqA (D :: S) H3 (.ref p0 :: ys1) ((tab0 c.length).map opD) := by
    unfold tab0
    rw [List.map_cons, List.map_replicate]
    refine .cons (.tup (by simp; exact ⟨nD0, fp0⟩) rp0 (.cons (.int _) (.cons (.int _) .nil))) ?_
    exact nones_dq c.length hY1
  have l0 : (tab0 c.length).length = c.length + 1 := by simp [tab0]
  have hsame : ∀ {G : Hp}, Fr [D] H3 G → Same H G := fun {G} f => by
    intro x o e
    have nx : x ≠ D := fun q => by rw [q, fD] at e; cases e
    exact f x o (by simpa using nx) (fr3 x o (by simpa using nx) (sm1 _ _ e))
  have ra3 : H3 a = some (.lst xs) := fr3 a _ (by simp; exact fun e => (by rw [e, fD] at ra; cases ra)) (sm1 _ _ ra)
  clear hH3 hp0
  walk_at "fl.w"
  refine forK_r (fun i σ' H' => ∃ u4 u5 u6 u7 u8 u9 ux ys t, σ' = [some (.ref a), some vk, some (.int most), some (.ref D), u4, u5, u6, u7, u8, u9, ux] ∧ runT (mdF c cs most) (tab0 c.length) i = .ok t ∧ t.length = c.length + 1 ∧ H' D = some (.lst ys) ∧ DqA (D :: S) H' ys (t.map opD) ∧ Fr [D] H3 H') ⟨_, _, _, _, _, _, _, _, tab0 c.length, rfl, rfl, l0, rD, dT0, Fr.refl⟩ ?_ ?_
  · intro i σ' H' hi ⟨u4, u5, u6, u7, u8, u9, ux, ys, t, e, hrun, hlt, rD', hY, fr⟩
    subst e
    have hi2 : i < c.length := by omega
    have hci : c[i]? = some c[i] := List.getElem?_eq_getElem hi2
    have hti : t[i]? = some t[i] := List.getElem?_eq_getElem (by omega)
    have hat : atT t (i : Int) = t[i] := by unfold atT; rw [show ((i : Nat) : Int).toNat = i from rfl, hti]; rfl
    obtain ⟨z, hz1, dz⟩ := hY.getD (i := i) (d := opD t[i]) (by rw [List.getElem?_map, hti]; rfl)
    have az : atI ys (i : Int) = some z := atI_nat hz1
    have ly := hY.len
    rw [List.length_map] at ly
    have alH : Al (D :: S) H' := al3.fr fr (.cons (by rw [rD']; simp) .nil)
    have dC' := dC.fr (fr.mono hsub)
    have dK' := dK.fr (fr.mono hsub)
    have hmem := List.mem_of_getElem? hci
    generalize hr : c[i] = r at hci hmem
    have hF : runT (mdF c cs most) (tab0 c.length) (i + 1) = match mdF c cs most i t with | none => .error i | some t' => .ok t' := by
      show (match runT (mdF c cs most) (tab0 c.length) i with | .error k => _ | .ok t => _) = _
      rw [hrun]
      all_goals rfl
    have hE : mdF c cs most i t = none → runT (mdF c cs most) (tab0 c.length) c.length = .error i := fun h => by
      have z := run_err (show runT (mdF c cs most) (tab0 c.length) (i + 1) = .error i by rw [hF, h]) (c.length - (i + 1))
      rwa [show i + 1 + (c.length - (i + 1)) = c.length by omega] at z
    rw [show (0 : Int) + (i : Int) = (i : Int) by omega]
    generalize t[i] = it at hat dz hti
    walk_at "fl.w"
    cases it with
    | none =>
      cases dz.nonE
      refine g_iteN (fun z => absurd rfl z) (fun _ => ?_)
      walk_at "fl.w"
      refine ⟨_, _, _, _, _, _, _, ys, t, rfl, ?_, hlt, rD', hY, fr⟩
      rw [hF]
      unfold mdF
      simp only [hci, hat]
    | some p =>
      obtain ⟨o, rfl, no, ro⟩ := prE dz
      refine g_iteN (fun _ => ?_) (fun z => by cases z)
      walk_at "fl.w"
      refine spD_app (D :: S) [codeD c, costsD cs, .int i] (olD (lcaP r ((c.length : Int) - i) cs)) alH (.cons dC' (.cons dK' (.cons (.int _) .nil))) ⟨c, cs, i, r, rfl, hci, hc, hcs, rfl⟩ (fun vw H4 sm4 dw => ?_)
      have f4 : Fr [D] H3 H4 := fr.trans (Fr.same sm4)
      have rD4 := sm4 _ _ rD'
      have ro4 := sm4 _ _ ro
      have hL : mdF c cs most i t = match lcaP r ((c.length : Int) - i) cs with
        | none => none
        | some a => if a.1 - p.1 > most ∨ a.2.2.1 + p.1 > 32 ∨ p.2 + a.2.2.2 > 4096 then none else mdB (behP r i) (p.1 + a.2.1, p.2 + a.2.2.2) t := by unfold mdF; simp only [hci, hat]; all_goals rfl
      cases hw : lcaP r ((c.length : Int) - i) cs with
      | none =>
        rw [hw] at dw hL
        cases dw.nonE
        walk_at "fl.w"
        refine g_ite (fun _ => ?_) (fun z => absurd rfl z)
        walk_at "fl.w"
        exact qe i hi2 (hE hL) _ (hsame f4)
      | some la =>
        rw [hw] at dw hL
        simp only at hL
        obtain ⟨wa, rfl, nw, rw'⟩ := olE dw
        have al4 := alH.same sm4
        walk_at "fl.w"
        refine g_ite (fun z => by cases z) (fun _ => ?_)
        walk_at "fl.w"
        refine g_ite (fun c1 => ?_) (fun c1 => ?_)
        · walk_at "fl.w"
          exact qe i hi2 (hE (by rw [hL, if_pos (.inl c1)])) _ (hsame f4)
        walk_at "fl.w"
        refine g_ite (fun c2 => ?_) (fun c2 => ?_)
        · walk_at "fl.w"
          exact qe i hi2 (hE (by rw [hL, if_pos (.inr (.inl c2))])) _ (hsame f4)
        walk_at "fl.w"
        refine g_ite (fun c3 => ?_) (fun c3 => ?_)
        · walk_at "fl.w"
          exact qe i hi2 (hE (by rw [hL, if_pos (.inr (.inr c3))])) _ (hsame f4)
        rw [if_neg (by omega)] at hL
        have dC4 := dC'.same sm4
        have hbeh := beh_lca hc0 hi2 hw
        walk_at "fl.w"
        refine spD_app (D :: S) [codeD c, .int i] (.list ((behP r i).map PyData.int)) al4 (.cons dC4 (.cons (.int _) .nil)) ⟨c, i, r, rfl, by omega, hci, rfl⟩ (fun vp H6 sm6 dp => ?_)
        obtain ⟨pa, ps, rfl, npa, rpa, hP⟩ := dp.lstE
        have rD6 := sm6 _ _ rD4
        have f6 : Fr [D] H3 H6 := f4.trans (Fr.same sm6)
        cases ints_of hP
        have rw6 := sm6 _ _ rw'
        have ro6 := sm6 _ _ ro4
        have hY6 := (hY.same sm4).same sm6
        have al6 := al4.same sm6
        have nwD : wa ∉ [D] := by simp at nw ⊢; exact nw.1
        have noD : o ∉ [D] := by simp at no ⊢; exact no.1
        walk_at "fl.w"
        refine forK_l (xs := (behP r i).map V.int) (fun j σ2 G => ∃ u7 u8 u9 ux zs s, σ2 = [some (.ref a), some vk, some (.int most), some (.ref D), some (.int i), some (.int p.1), some (.ref wa), u7, u8, u9, ux] ∧ mdB (behP r i) (p.1 + la.2.1, p.2 + la.2.2.2) t = mdB ((behP r i).drop j) (p.1 + la.2.1, p.2 + la.2.2.2) s ∧ s.length = c.length + 1 ∧ zs[i]? = some (.ref o) ∧ G D = some (.lst zs) ∧ DqA (D :: S) G zs (s.map opD) ∧ Fr [D] H6 G) ⟨_, _, _, _, ys, t, rfl, rfl, hlt, hz1, rD6, hY6, Fr.refl⟩ ?_ ?_ ?_
        · intro j σ2 G _ ⟨_, _, _, _, _, _, _, _, _, _, _, _, fg⟩
          exact SqL.of (fg _ _ (by simp at npa ⊢; exact npa.1) rpa)
        · intro j x σ2 G hx ⟨u7, u8, u9, ux, zs, s, e, hB, hls, hzi, rDG, hZ, fg⟩
          subst e
          rw [List.getElem?_map] at hx
          cases hb0 : (behP r i)[j]? with
          | none => rw [hb0] at hx; cases hx
          | some y =>
          rw [hb0] at hx
          cases hx
          have hji : j < (behP r i).length := (List.getElem?_eq_some_iff.mp hb0).1
          have hdr : (behP r i).drop j = y :: (behP r i).drop (j + 1) := by
            rw [List.drop_eq_getElem_cons hji, (List.getElem?_eq_some_iff.mp hb0).2]
          have hm := List.mem_of_getElem? hb0
          obtain ⟨y0, y1⟩ := hbeh y hm
          have lz := hZ.len
          rw [List.length_map] at lz
          have hyl : y.toNat < s.length := by omega
          have hsy : s[y.toNat]? = some s[y.toNat] := List.getElem?_eq_getElem hyl
          have hay : atT s y = s[y.toNat] := by unfold atT; rw [hsy]; rfl
          obtain ⟨q0, hq0, dq⟩ := hZ.getD (i := y.toNat) (d := opD s[y.toNat]) (by rw [List.getElem?_map, hsy]; rfl)
          have aq : atI zs y = some q0 := by
            have := atI_nat hq0
            rwa [show ((y.toNat : Nat) : Int) = y by omega] at this
          have azi : atI zs (i : Int) = some (.ref o) := atI_nat hzi
          generalize s[y.toNat] = io at hay dq
          have alG : Al (D :: S) G := al6.fr fg (.cons (by rw [rDG]; simp) .nil)
          have rwG := fg _ _ nwD rw6
          have roG := fg _ _ noD ro6
          have f7 : Fr [D] H3 G := f6.trans fg
          rw [hdr] at hB
          have hix : ixN zs.length y = some y.toNat := by
            unfold ixN
            rw [if_pos (by omega), if_pos (by omega)]
          have keep : (∃ q, io = some q ∧ q.1 = p.1 + la.2.1 ∧ ¬ q.2 < p.2 + la.2.2.2) → mdB (behP r i) (p.1 + la.2.1, p.2 + la.2.2.2) t = mdB ((behP r i).drop (j + 1)) (p.1 + la.2.1, p.2 + la.2.2.2) s := fun ⟨q, hq, h1, h2⟩ => by
            rw [hB]
            conv => lhs; unfold mdB
            rw [hay, hq]
            simp only
            rw [if_neg (by rw [h1]; simp), if_neg h2]
          have put : ∀ (tt : Addr) (hT : G tt = none), (∀ q, io = some q → q.1 = p.1 + la.2.1 ∧ q.2 < p.2 + la.2.2.2) → ∃ zs' s', mdB (behP r i) (p.1 + la.2.1, p.2 + la.2.2.2) t = mdB ((behP r i).drop (j + 1)) (p.1 + la.2.1, p.2 + la.2.2.2) s' ∧ s'.length = c.length + 1 ∧ zs'[i]? = some (.ref o) ∧ (upd (upd G tt (.tup [.int (p.1 + la.2.1), .int (p.2 + la.2.2.2)])) D (.lst (zs.set y.toNat (.ref tt)))) D = some (.lst zs') ∧ DqA (D :: S) (upd (upd G tt (.tup [.int (p.1 + la.2.1), .int (p.2 + la.2.2.2)])) D (.lst (zs.set y.toNat (.ref tt)))) zs' (s'.map opD) ∧ Fr [D] H6 (upd (upd G tt (.tup [.int (p.1 + la.2.1), .int (p.2 + la.2.2.2)])) D (.lst (zs.set y.toNat (.ref tt)))) := fun tt hT hq => by
            refine ⟨zs.set y.toNat (.ref tt), s.set y.toNat (some (p.1 + la.2.1, p.2 + la.2.2.2)), ?_, by rw [List.length_set]; exact hls, by rw [List.getElem?_set_ne (by omega)]; exact hzi, upd_same, ?_, (fg.trans (Fr.same (Fl.Same.new hT))).trans (Fr.upd (by simp))⟩
            · rw [hB]
              conv => lhs; unfold mdB
              rw [hay]
              cases io with
              | none => rfl
              | some q =>
                obtain ⟨h1, h2⟩ := hq q rfl
                simp only
                rw [if_neg (by rw [h1]; simp), if_pos h2]
            · rw [← set_tab]
              exact (DqA.setAt y.toNat (hZ.same (Fl.Same.new hT)) (.tup (alG.ni hT) upd_same (.cons (.int _) (.cons (.int _) .nil)))).fr (Fr.upd (by simp))
          walk_at "fl.w"
          cases io with
          | none =>
            cases dq.nonE
            refine g_iteN (fun z => absurd rfl z) (fun _ => ?_)
            walk_at "fl.w"
            refine g_ite (fun _ => ?_) (fun z => absurd rfl z)
            walk_at "fl.w"
            rename_i tt hT
            refine g_setL (raw_new hT rDG) hix ?_
            obtain ⟨zs', s', b1, b2, b3, b4, b5, b6⟩ := put tt hT (fun q h => by cases h)
            exact ⟨_, _, _, _, zs', s', rfl, b1, b2, b3, b4, b5, b6⟩
          | some q =>
            obtain ⟨qa, rfl, nq, rq⟩ := prE dq
            refine g_iteN (fun _ => ?_) (fun z => by cases z)
            walk_at "fl.w"
            refine g_iteN (fun hne => ?_) (fun heq => ?_)
            · walk_at "fl.w"
              refine qe i hi2 (hE ?_) _ (hsame f7)
              rw [hL, hB]
              unfold mdB
              rw [hay]
              simp only
              rw [if_pos hne]
            · walk_at "fl.w"
              refine g_ite (fun z => by cases z) (fun _ => ?_)
              walk_at "fl.w"
              refine g_ite (fun hlt2 => ?_) (fun hlt2 => ?_)
              · walk_at "fl.w"
                rename_i tt hT
                refine g_setL (raw_new hT rDG) hix ?_
                obtain ⟨zs', s', b1, b2, b3, b4, b5, b6⟩ := put tt hT (fun q' h => by cases h; exact ⟨heq, hlt2⟩)
                exact ⟨_, _, _, _, zs', s', rfl, b1, b2, b3, b4, b5, b6⟩
              · walk_at "fl.w"
                exact ⟨_, _, _, _, zs, s, rfl, keep ⟨q, rfl, heq, hlt2⟩, hls, hzi, rDG, hZ, fg⟩
        · intro σ2 G ⟨u7, u8, u9, ux, zs, s, e, hB, hls, hzi, rDG, hZ, fg⟩
          subst e
          rw [List.length_map, List.drop_length] at hB
          refine ⟨_, _, _, _, _, _, _, zs, s, rfl, ?_, hls, rDG, hZ, f6.trans fg⟩
          rw [hF, hL, hB]
          rfl
  · intro σ' H' ⟨u4, u5, u6, u7, u8, u9, ux, ys, t, e, hrun, hlt, rD', hY, fr⟩
    subst e
    rw [show ((xs.length : Nat) : Int).toNat = c.length by omega] at hrun
    walk_at "fl.w"
    exact qo t hrun _ _ fD (hsame fr) (.lst nD rD' hY.tail)
end

section
variable {P : Program} {w : World} {K : PySem.W.Frag} {mg : Str → Option Value} {base : Heap}
local macro_rules | `(tactic| walk_at "fl.t") => `(tactic| (with_reducible refine g_chainW ?_))
local macro_rules | `(tactic| walk_at "fl.t") => `(tactic| (with_reducible refine g_ifE ?_))
local macro_rules | `(tactic| walk_at "fl.w") => `(tactic| repeat walk_at "fl.t")
theorem tab0_good (n : Nat) : GoodT (tab0 n) := fun p m => by rw [tab0_mem m]; decide
theorem run_md {c : List In} {cs : List Co} {most : Int} (hm : 0 ≤ most) (gc : GoodC cs) : runT (mdF c cs most) (tab0 c.length) c.length = runT (lstF c cs most) (tab0 c.length) c.length := ((run_eq hm gc.lo (tab0_good _) c.length).1).symm
def allD (r : Except Pr (List Tab)) : PyData := match r with
  | .error e => Fl.prD e
  | .ok ts => tabsD ts
def fMt (ds : List PyData) (d : PyData) : Prop := ∃ g : Pg, ds = [pgD g] ∧ PgOk g ∧ d = allD (allM g.f g.m)
theorem ok_law_made_tables (T : Txt K mg) : Has P w K mg base 5 "_law_made_tables" ps_law_made_tables (spD fMt) := by
  have h_law_made_table := ok_law_made_table (P := P) (w := w) (base := base) T
  have h_law_judged := ok_law_judged (P := P) (w := w) (base := base) T
  refine has_of T.d_law_made_tables sc_law_made_tables bd_law_made_tables (fun vs H Q E h => ?_) (fun f cdv A outer s H vs Q E hr h => ?_)
  · obtain ⟨S, ds, d, _, hd, ⟨g, rfl, _⟩, _⟩ := h
    rw [hd.len]; rfl
  obtain ⟨S, ds, d, hS, hd, ⟨g, rfl, ok, rfl⟩, q⟩ := h
  obtain ⟨v, _, rfl, hv, hd⟩ := hd.consE
  cases hd.nilE
  have hfl := ok.fl
  obtain ⟨a, ps, rfl, nA, rA, hP⟩ := hv.lstE
  obtain ⟨v1, _, rfl, h1, hP⟩ := hP.consE
  obtain ⟨v2, _, rfl, h2, hP⟩ := hP.consE
  obtain ⟨v3, _, rfl, h3, hP⟩ := hP.consE
  obtain ⟨v4, _, rfl, h4, hP⟩ := hP.consE
  cases hP.nilE
  obtain ⟨b, xs, rfl, nb, rb, hX⟩ := h2.lstE
  have lx := hX.len
  rw [List.length_map] at lx
  refine ⟨_, (pss_cons (ps_if (pt_cmpR op_gt (pe_callB (clLen (K := K) rfl) (by rfl) T.z_len (by decide +kernel) (pa_cons (pe_ix (ixL (K := K) rfl) (pv 0) pe_int (fun _ _ => rfl)) pa_nil)) pe_int (nomark _))
        (pss_one (ps_ret (pe_tup (pa_cons pe_int (pa_cons pe_int pa_nil)))))
        pss_nil)
      (pss_cons (ps_set (i := 1) sc_law_made_tables.nd rfl (.inl rfl) (pe_lst pa_nil))
      (pss_cons (ps_set (i := 2) sc_law_made_tables.nd rfl (.inl rfl) (pe_lst pa_nil))
      (pss_cons (ps_for PassesOwn.never rfl (pi_range1 (by rfl) T.z_range (pa_cons (pe_callB (clLen (K := K) rfl) (by rfl) T.z_len (by decide +kernel) (pa_cons (pe_ix (ixL (K := K) rfl) (pv 0) pe_int (fun _ _ => rfl)) pa_nil)) pa_nil)) (pg_name (i := 3) sc_law_made_tables.nd rfl (.inl rfl))
        (pss_cons (ps_set (i := 4) sc_law_made_tables.nd rfl (.inl rfl) (pe_h h_law_made_table (hr.mono (by decide)) (pa_cons (pe_ix (ixL (K := K) rfl) (pe_ix (ixL (K := K) rfl) (pv 0) pe_int (fun _ _ => rfl)) (pv 3) (fun _ _ => rfl)) (pa_cons (pv 1) (pa_cons pe_int pa_nil)))))
      (pss_cons (ps_if (pt_not (pt_val (pe_callB (clIsi (K := K) rfl) (by rfl) T.z_isinstance (by decide +kernel) (pa_cons (pv 4) (pa_cons (pe_bltn (v := .ty "list") (by rfl) T.z_list (by decide +kernel) rfl) pa_nil)))))
        (pss_one (ps_ret (pe_tup (pa_cons (pv 3) (pa_cons (pv 4) pa_nil)))))
        pss_nil)
      (pss_cons (ps_expr (pe_bm PySem.F.plainAttrs_list PySem.F.slot_list_append PySem.F.type_list_append mt_append (pv 2) (pa_cons (pv 4) pa_nil)))
      (pss_one (ps_expr (pe_bm PySem.F.plainAttrs_list PySem.F.slot_list_append PySem.F.type_list_append mt_append (pv 1) (pa_cons (pe_h h_law_judged (hr.mono (by decide)) (pa_cons (pe_ix (ixL (K := K) rfl) (pe_ix (ixL (K := K) rfl) (pv 0) pe_int (fun _ _ => rfl)) (pv 3) (fun _ _ => rfl)) (pa_cons (pv 1) (pa_cons (pv 4) pa_nil)))) pa_nil))))))))
      (pss_cons (ps_set (i := 4) sc_law_made_tables.nd rfl (.inl rfl) (pe_h h_law_made_table (hr.mono (by decide)) (pa_cons (pe_ix (ixL (K := K) rfl) (pv 0) pe_int (fun _ _ => rfl)) (pa_cons (pv 1) (pa_cons pe_int pa_nil)))))
      (pss_cons (ps_if (pt_not (pt_val (pe_callB (clIsi (K := K) rfl) (by rfl) T.z_isinstance (by decide +kernel) (pa_cons (pv 4) (pa_cons (pe_bltn (v := .ty "list") (by rfl) T.z_list (by decide +kernel) rfl) pa_nil)))))
        (pss_one (ps_ret (pe_tup (pa_cons (pe_un un_neg pe_int) (pa_cons (pv 4) pa_nil)))))
        pss_nil)
      (pss_one (ps_ret (pe_op op_cat (pv 2) (pe_lst (pa_cons (pv 4) pa_nil))))))))))), ?_⟩
  walk_at "fl.w"
  refine g_ite (fun z => by exfalso; omega) (fun _ => ?_)
  walk_at "fl.w"
  rename_i D2 hD2 D1 hD1
  obtain ⟨H3, hH3⟩ : ∃ H3 : Hp, H3 = upd (upd H D2 (.lst [])) D1 (.lst []) := ⟨_, rfl⟩
  rw [← hH3]
  have sm3 : Same H H3 := by rw [hH3]; exact (Fl.Same.new hD2).trans (Fl.Same.new hD1)
  have r2 : H3 D2 = some (.lst []) := by rw [hH3]; exact raw_new hD1 upd_same
  have r1 : H3 D1 = some (.lst []) := by rw [hH3]; exact upd_same
  have f2 : H D2 = none := hD2
  have f1 : H D1 = none := free3 hD1
  have n12 : D1 ≠ D2 := fun e => by rw [e, upd_same] at hD1; cases hD1
  clear hH3 hD2 hD1
  have al3 : Al (D1 :: D2 :: S) H3 := .cons (by rw [r1]; simp) (.cons (by rw [r2]; simp) (hS.same sm3))
  have hXn : DqA (D1 :: D2 :: S) H3 xs (g.f.map codeD) := ((hX.new f2).new f1).same sm3
  have hsub : ∀ x, x ∈ [D1, D2] → x ∈ D1 :: D2 :: S := fun x m => by simp at m ⊢; exact m.elim .inl fun z => .inr (.inl z)
  have nbD : b ∉ [D1, D2] := by simp; exact ⟨fun e => (by rw [e, f1] at rb; cases rb), fun e => (by rw [e, f2] at rb; cases rb)⟩
  have naD : a ∉ [D1, D2] := by simp; exact ⟨fun e => (by rw [e, f1] at rA; cases rA), fun e => (by rw [e, f2] at rA; cases rA)⟩
  have rb3 := sm3 _ _ rb
  have rA3 := sm3 _ _ rA
  have hsame : ∀ {G : Hp}, Fr [D1, D2] H3 G → Same H G := fun {G} f x o e => f x o (fun m => by
    simp at m
    rcases m with rfl | rfl
    · rw [f1] at e; cases e
    · rw [f2] at e; cases e) (sm3 _ _ e)
  have toS : ∀ x, x ∈ S → x ∈ D1 :: D2 :: S := fun x m => by simp [m]
  have nD1 : D1 ∉ S := hS.ni f1
  have nD2 : D2 ∉ S := hS.ni f2
  walk_at "fl.w"
  refine forK_r (fun i σ' H' => ∃ u3 u4 ys zs p, σ' = [some (.ref a), some (.ref D2), some (.ref D1), u3, u4] ∧ mkR g.f i = .ok p ∧ H' D1 = some (.lst ys) ∧ H' D2 = some (.lst zs) ∧ DqA (D1 :: D2 :: S) H' ys (p.1.map tabD) ∧ DqA (D1 :: D2 :: S) H' zs (p.2.map coD) ∧ Fr [D1, D2] H3 H') ⟨_, _, [], [], ([], []), rfl, rfl, r1, r2, .nil, .nil, Fr.refl⟩ ?_ ?_
  · intro i σ' H' hi ⟨u3, u4, ys, zs, p, e, hmk, rD1, rD2, hY, hZ, fr⟩
    subst e
    have hix : i < g.f.length := by omega
    obtain ⟨l1, l2, gc, _⟩ := mkR_jud i p (by omega) hmk
    have hfi : g.f[i]? = some g.f[i] := List.getElem?_eq_getElem hix
    have hXg := hXn.fr (fr.mono hsub)
    obtain ⟨x, hx, dxc⟩ := hXg.getD (i := i) (d := codeD g.f[i]) (by rw [List.getElem?_map, hfi]; rfl)
    have ax : atI xs (i : Int) = some x := atI_nat hx
    have hco := ok.f _ (List.mem_of_getElem? hfi)
    have hmk1 : mkR g.f (i + 1) = match runT (lstF g.f[i] p.2 32) (tab0 g.f[i].length) g.f[i].length with
        | .error k => .error (i, k)
        | .ok t => .ok (p.1 ++ [t], p.2 ++ [(judP g.f[i] p.2 t).getD (0, 0, 0, 0)]) := by
      conv => lhs; unfold mkR
      rw [hmk]
      simp only [hfi]
      all_goals rfl
    generalize g.f[i] = cd at hfi dxc hco hmk1
    rw [← run_md (by decide) gc] at hmk1
    have alH : Al (D1 :: D2 :: S) H' := al3.fr fr (.cons (by rw [rD1]; simp) (.cons (by rw [rD2]; simp) .nil))
    have alS : Al S H' := fun b m => alH b (by simp [m])
    have rA' := fr _ _ naD rA3
    have rb' := fr _ _ nbD rb3
    have dK : Dq S H' (.ref D2) (costsD p.2) := .lst nD2 rD2 (hZ.mono toS)
    have dC : Dq S H' x (codeD cd) := dxc.mono toS
    have cok := gc.ok (by omega)
    have lys := hY.len
    have lzs := hZ.len
    rw [List.length_map] at lys lzs
    rw [show (0 : Int) + (i : Int) = (i : Int) by omega]
    walk_at "fl.w"
    refine ⟨S, x, .ref D2, cd, p.2, 32, rfl, alS, dC, dK, hco, cok, fun c m => (gc c m).1, fun t ht D H4 hD sm4 dT => ?_, fun k hk ht H4 sm4 => ?_⟩
    · rw [ht] at hmk1
      rw [run_md (by decide) gc] at ht
      obtain ⟨hbeg, la, lz, hlj, hat, hcj, k1, k2, k3⟩ := made_lj (by decide) (by decide) gc.lo ht
      simp only [hcj, Option.getD_some] at hmk1
      have rD1' := sm4 _ _ rD1
      have rD2' := sm4 _ _ rD2
      have nDD1 : D ≠ D1 := fun e => by rw [e, rD1] at hD; cases hD
      have nDD2 : D ≠ D2 := fun e => by rw [e, rD2] at hD; cases hD
      have dT2 : Dq (D1 :: D2 :: S) H4 (.ref D) (tabD t) := tab_more (tab_more dT nDD2 rD2') nDD1 rD1'
      obtain ⟨_, ts, e, _, rD, hTs⟩ := dT2.lstE
      cases e
      have rA4 := sm4 _ _ rA'
      have rb4 := sm4 _ _ rb'
      obtain ⟨H5, hH5⟩ : ∃ H5 : Hp, H5 = upd H4 D1 (.lst (ys ++ [.ref D])) := ⟨_, rfl⟩
      have fr5 : Fr [D1, D2] H4 H5 := by rw [hH5]; exact Fr.upd (by simp)
      have r15 : H5 D1 = some (.lst (ys ++ [.ref D])) := by rw [hH5]; exact upd_same
      have r25 : H5 D2 = some (.lst zs) := by rw [hH5, upd_ne (Ne.symm n12)]; exact rD2'
      have rA5 := fr5 _ _ naD rA4
      have rb5 := fr5 _ _ nbD rb4
      walk_at "fl.w"
      rw [← hH5]
      walk_at "fl.w"
      have al5 : Al (D1 :: D2 :: S) H5 := (alH.same sm4).fr fr5 (.cons (by rw [r15]; simp) (.cons (by rw [r25]; simp) .nil))
      have al5S : Al S H5 := fun b m => al5 b (toS b m)
      have dT5 := dT2.fr (fr5.mono hsub)
      have hZ5 := (hZ.same sm4).fr (fr5.mono hsub)
      have hY5 := (hY.same sm4).fr (fr5.mono hsub)
      have dC5 := ((dxc.same sm4).fr (fr5.mono hsub)).mono toS
      refine spD_app S [codeD cd, costsD p.2, tabD t] (coD (la.1, lz.1, la.2, lz.2)) al5S (.cons dC5 (.cons (.lst nD2 r25 (hZ5.mono toS)) (.cons (dT5.mono toS) .nil))) ⟨cd, p.2, t, la, lz, rfl, hco, cok, fun c m => (gc c m).1, hbeg, hlj, hat, k1, k2, k3, rfl⟩ (fun vj H6 sm6 dj => ?_)
      have r16 := sm6 _ _ r15
      have r26 := sm6 _ _ r25
      have dj2 : Dq (D1 :: D2 :: S) H6 vj (coD (la.1, lz.1, la.2, lz.2)) := co_more (co_more dj r26) r16
      walk_at "fl.w"
      have fu : Fr (D1 :: D2 :: S) H6 (upd H6 D2 (.lst (zs ++ [vj]))) := Fr.upd (by simp)
      refine ⟨_, _, ys ++ [.ref D], zs ++ [vj], _, rfl, hmk1, by rw [upd_ne n12]; exact r16, upd_same, ?_, ?_, ?_⟩
      · rw [List.map_append]
        exact ((hY5.same sm6).app (.one (dT5.same sm6))).fr fu
      · rw [List.map_append]
        exact ((hZ5.same sm6).app (.one dj2)).fr fu
      · exact (((fr.trans (Fr.same sm4)).trans fr5).trans (Fr.same sm6)).trans (Fr.upd (by simp))
    · rw [ht] at hmk1
      have z := mkR_err hmk1 (g.f.length - (i + 1))
      rw [show i + 1 + (g.f.length - (i + 1)) = g.f.length by omega] at z
      have hM : allM g.f g.m = .error ((i : Int), (k : Int)) := by unfold allM; rw [z]
      rw [hM] at q
      walk_at "fl.w"
      rename_i tt htt
      exact q _ _ (((hsame fr).trans sm4).trans (Fl.Same.new htt)) (.tup ((alS.same sm4).ni htt) upd_same (.cons (.int _) (.cons (.int _) .nil)))
  · intro σ' H' ⟨u3, u4, ys, zs, p, e, hmk, rD1, rD2, hY, hZ, fr⟩
    subst e
    rw [lx, show ((g.f.length : Nat) : Int).toNat = g.f.length from rfl] at hmk
    obtain ⟨l1, l2, gc, _⟩ := mkR_jud _ p (Nat.le_refl _) hmk
    have alH : Al (D1 :: D2 :: S) H' := al3.fr fr (.cons (by rw [rD1]; simp) (.cons (by rw [rD2]; simp) .nil))
    have alS : Al S H' := fun b m => alH b (by simp [m])
    have rA' := fr _ _ naD rA3
    have h1' : Dq (D1 :: D2 :: S) H' v1 (codeD g.m) := (((h1.new f2).new f1).same sm3).fr (fr.mono hsub)
    have cok := gc.ok (by omega)
    have lys := hY.len
    rw [List.length_map] at lys
    walk_at "fl.w"
    refine ⟨S, v1, .ref D2, g.m, p.2, 0, rfl, alS, h1'.mono toS, .lst nD2 rD2 (hZ.mono toS), ok.m, cok, fun c m => (gc c m).1, fun t ht D H4 hD sm4 dT => ?_, fun k hk ht H4 sm4 => ?_⟩
    · have rD1' := sm4 _ _ rD1
      rw [run_md (by decide) gc] at ht
      obtain ⟨_, ts, e, _, rD, hTs⟩ := dT.lstE
      cases e
      have hM : allM g.f g.m = .ok (p.1 ++ [t]) := by unfold allM; rw [hmk]; simp only [ht]
      rw [hM] at q
      walk_at "fl.w"
      rename_i lA hlA lB hlB
      have smE := (Fl.Same.new (o := .lst [V.ref D]) hlA).trans (Fl.Same.new (o := .lst (ys ++ [.ref D])) hlB)
      refine q _ _ (((hsame fr).trans sm4).trans smE) ?_
      refine .lst ((alS.same sm4).ni (free3 hlB)) upd_same ?_
      rw [List.map_append]
      exact (((hY.mono toS).same sm4).same smE).app (.one (dT.same smE))
    · rw [run_md (by decide) gc] at ht
      have hM : allM g.f g.m = .error (-1, (k : Int)) := by unfold allM; rw [hmk]; simp only [ht]
      rw [hM] at q
      walk_at "fl.w"
      rename_i tt htt
      exact q _ _ (((hsame fr).trans sm4).trans (Fl.Same.new htt)) (.tup ((alS.same sm4).ni htt) upd_same (.cons (.int _) (.cons (.int _) .nil)))
end

section
variable {P : Program} {w : World} {K : PySem.W.Frag} {mg : Str → Option Value} {base : Heap}
/-- a join: what holds behind a statement, whichever way it went -/
theorem g_J {t : TS} {D : Ends} {σ : L2.St} {H : Hp} (J : L2.St → Hp → Prop) (h : ∀ N : L2.St → Hp → Prop, (∀ σ H, J σ H → N σ H) → t { D with nx := N } σ H) (k : ∀ σ H, J σ H → D.nx σ H) : t D σ H := h D.nx k
local macro_rules | `(tactic| walk_at "fl.t") => `(tactic| (with_reducible refine g_chainW ?_))
local macro_rules | `(tactic| walk_at "fl.t") => `(tactic| (with_reducible refine g_ifE ?_))
local macro_rules | `(tactic| walk_at "fl.w") => `(tactic| repeat walk_at "fl.t")
local macro_rules | `(tactic| walk_at "fl.q") => `(tactic| repeat ((fail_if_success (with_reducible refine g_if ?_)); walk_at "fl.t"))
theorem w8_all : ∀ ws, ws ∈ W8 → ∀ x, x ∈ ws → x ∈ allW := by decide +kernel
theorem w8_len : ∀ ws, ws ∈ W8 → 0 < ws.length ∧ ws.length < 20 := by decide +kernel
theorem w8_five : ∀ i, 5 ≤ i → i < 8 → ∃ ws, W8[i]? = some ws ∧ 5 ≤ ws.length := fun i h1 h2 => by
  match i, h1, h2 with
  | 5, _, _ => exact ⟨_, rfl, by decide⟩
  | 6, _, _ => exact ⟨_, rfl, by decide⟩
  | 7, _, _ => exact ⟨_, rfl, by decide⟩
theorem jjL_flat : ([V.str "jump", V.str "jumpzero"] : List V).all flatV = true := rfl
/-- the ways a number to push is chosen -/
theorem nine_at {v : Int} (h0 : 0 ≤ v) (h1 : v < 9) : ∃ k : Int, atI [V.int 0, V.int 0, V.int 0, V.int 0, V.int 1, V.int 1, V.int 1, V.int 2, V.int 3] v = some (.int k) ∧ 0 ≤ k ∧ k < 4 := by
  have : v = 0 ∨ v = 1 ∨ v = 2 ∨ v = 3 ∨ v = 4 ∨ v = 5 ∨ v = 6 ∨ v = 7 ∨ v = 8 := by omega
  rcases this with rfl | rfl | rfl | rfl | rfl | rfl | rfl | rfl | rfl
  · exact ⟨0, rfl, by decide, by decide⟩
  · exact ⟨0, rfl, by decide, by decide⟩
  · exact ⟨0, rfl, by decide, by decide⟩
  · exact ⟨0, rfl, by decide, by decide⟩
  · exact ⟨1, rfl, by decide, by decide⟩
  · exact ⟨1, rfl, by decide, by decide⟩
  · exact ⟨1, rfl, by decide, by decide⟩
  · exact ⟨2, rfl, by decide, by decide⟩
  · exact ⟨3, rfl, by decide, by decide⟩
theorem four_at {k a b c e : Int} (h0 : 0 ≤ k) (h1 : k < 4) (ha : B32 a) (hb : B32 b) (hc : B32 c) (he : B32 e) : ∃ n : Int, atI [V.int a, V.int b, V.int c, V.int e] k = some (.int n) ∧ B32 n := by
  have : k = 0 ∨ k = 1 ∨ k = 2 ∨ k = 3 := by omega
  rcases this with rfl | rfl | rfl | rfl
  · exact ⟨a, rfl, ha⟩
  · exact ⟨b, rfl, hb⟩
  · exact ⟨c, rfl, hc⟩
  · exact ⟨e, rfl, he⟩
theorem three_at {k : Int} (h0 : 0 ≤ k) (h1 : k < 3) : ∃ n : Int, atI [V.int (-1), V.int 99, V.int 20] k = some (.int n) ∧ B32 n := by
  have : k = 0 ∨ k = 1 ∨ k = 2 := by omega
  rcases this with rfl | rfl | rfl
  · exact ⟨-1, rfl, by decide, by decide⟩
  · exact ⟨99, rfl, by decide, by decide⟩
  · exact ⟨20, rfl, by decide, by decide⟩
theorem atI_of {xs : List V} {k : Int} {v : V} (h0 : 0 ≤ k) (h : xs[k.toNat]? = some v) : atI xs k = some v := by
  have := atI_nat h
  rwa [show ((k.toNat : Nat) : Int) = k by omega] at this
def spIn : Sp := fun vs H Q _ => ∃ (S : List Addr) (d s : Addr) (ns : List Int) (h f l : Int), vs = [.ref d, .int h, .int f, .int l] ∧ d ∈ S ∧ Al S H ∧ Dk d s ns H ∧ 0 ≤ f ∧ f ≤ 100 ∧
  ∀ t H' (r : In), Fr [d] H H' → Dk d s ns H' → Dq S H' (.ref t) (inD r) → r.1 ∈ allW → B32 r.2 → Q (.ref t) H'
theorem ok_law_instruction (T : Txt K mg) : Has P w K mg base 2 "_law_instruction" ps_law_instruction spIn := by
  have h_law_words := ok_law_words (P := P) (w := w) (base := base) T
  have h_law_draw := ok_law_draw (P := P) (w := w) (base := base) T
  refine has_of T.d_law_instruction sc_law_instruction bd_law_instruction (fun vs H Q E h => ?_) (fun f cdv A outer s H vs Q E hr h => ?_)
  · obtain ⟨S, d, s, ns, h, f, l, rfl, _⟩ := h
    rfl
  obtain ⟨S, d, s, ns, hh, ff, ll, rfl, hdS, hS, hk, hf0, hf1, q⟩ := h
  refine ⟨_, (pss_cons (ps_set (i := 4) sc_law_instruction.nd rfl (.inl rfl) (pe_h0 h_law_words (hr.mono (by decide))))
      (pss_cons (ps_set (i := 5) sc_law_instruction.nd rfl (.inl rfl) (pe_h h_law_draw (hr.mono (by decide)) (pa_cons (pv 0) (pa_cons pe_int pa_nil))))
      (pss_cons (ps_if (PW.pt (pw_or (PW.pt (pw_and (pt_cmpR op_lt (pv 1) pe_int (nomark _)) (pw_and1 (pt_cmpR op_gt (pe_h h_law_draw (hr.mono (by decide)) (pa_cons (pv 0) (pa_cons pe_int pa_nil))) pe_int (nomark _))))) (pw_or1 (pt_cmpR op_gt (pv 5) pe_int (nomark _)))))
        (pss_one (ps_set (i := 5) sc_law_instruction.nd rfl (.inl rfl) pe_int))
        pss_nil)
      (pss_cons (ps_set (i := 6) sc_law_instruction.nd rfl (.inl rfl) pe_str)
      (pss_cons (ps_if (pt_cmpR op_lt (pv 5) pe_int (nomark _))
        (pss_one (ps_set (i := 6) sc_law_instruction.nd rfl (.inl rfl) (pe_ix (ixL (K := K) rfl) (pe_ix (ixL (K := K) rfl) (pv 4) (pv 5) (fun _ _ => rfl)) (pe_h h_law_draw (hr.mono (by decide)) (pa_cons (pv 0) (pa_cons (pe_callB (clLen (K := K) rfl) (by rfl) T.z_len (by decide +kernel) (pa_cons (pe_ix (ixL (K := K) rfl) (pv 4) (pv 5) (fun _ _ => rfl)) pa_nil)) pa_nil))) (fun _ _ => rfl))))
        (pss_one (ps_set (i := 6) sc_law_instruction.nd rfl (.inl rfl) (pe_ix (ixL (K := K) rfl) (pe_ix (ixL (K := K) rfl) (pv 4) (pe_op op_add pe_int (pe_op op_mod (pe_callTy call_int' (by rfl) T.z_int (by decide +kernel) (pa_cons (pv 5) pa_nil)) pe_int)) (fun _ _ => rfl)) (pe_h h_law_draw (hr.mono (by decide)) (pa_cons (pv 0) (pa_cons pe_int pa_nil))) (fun _ _ => rfl)))))
      (pss_cons (ps_set (i := 7) sc_law_instruction.nd rfl (.inl rfl) (pe_op op_sub (pe_h h_law_draw (hr.mono (by decide)) (pa_cons (pv 0) (pa_cons pe_int pa_nil))) pe_int))
      (pss_cons (ps_if (pt_cmpR op_eq (pv 6) pe_str (nomark _))
        (pss_one (ps_set (i := 7) sc_law_instruction.nd rfl (.inl rfl) (pe_ix (ixL (K := K) rfl) (pe_lst (pa_cons (pe_h h_law_draw (hr.mono (by decide)) (pa_cons (pv 0) (pa_cons pe_int pa_nil))) (pa_cons (pe_op op_sub (pe_h h_law_draw (hr.mono (by decide)) (pa_cons (pv 0) (pa_cons pe_int pa_nil))) pe_int) (pa_cons (pe_op op_sub (pe_op op_sub (pe_powc (r := 2147483648) (by decide) (by decide +kernel)) pe_int) (pe_h h_law_draw (hr.mono (by decide)) (pa_cons (pv 0) (pa_cons pe_int pa_nil)))) (pa_cons (pe_un un_neg (pe_powc (r := 2147483648) (by decide) (by decide +kernel))) pa_nil))))) (pe_ix (ixL (K := K) rfl) (pe_lst (pa_cons pe_int (pa_cons pe_int (pa_cons pe_int (pa_cons pe_int (pa_cons pe_int (pa_cons pe_int (pa_cons pe_int (pa_cons pe_int (pa_cons pe_int pa_nil)))))))))) (pe_h h_law_draw (hr.mono (by decide)) (pa_cons (pv 0) (pa_cons pe_int pa_nil))) (fun _ _ => rfl)) (fun _ _ => rfl))))
        pss_nil)
      (pss_cons (ps_if (pt_cmpR (opIn (K := K) rfl) (pv 6) (pe_lst (pa_cons pe_str (pa_cons pe_str pa_nil))) (by rfl))
        (pss_one (ps_set (i := 7) sc_law_instruction.nd rfl (.inl rfl) (pe_callB (call_min' rfl) (by rfl) T.z_min (by decide +kernel) (pa_cons (pe_h h_law_draw (hr.mono (by decide)) (pa_cons (pv 0) (pa_cons pe_int pa_nil))) (pa_cons (pe_callB (call_max' rfl) (by rfl) T.z_max (by decide +kernel) (pa_cons pe_int (pa_cons (pe_op op_sub (pv 3) pe_int) pa_nil))) pa_nil)))))
        pss_nil)
      (pss_cons (ps_if (pt_cmpR (opIn (K := K) rfl) (pv 6) (pe_lst (pa_cons pe_str (pa_cons pe_str pa_nil))) (by rfl))
        (pss_cons (ps_set (i := 7) sc_law_instruction.nd rfl (.inl rfl) (pe_h h_law_draw (hr.mono (by decide)) (pa_cons (pv 0) (pa_cons (pe_callB (call_max' rfl) (by rfl) T.z_max (by decide +kernel) (pa_cons pe_int (pa_cons (pv 2) pa_nil))) pa_nil))))
      (pss_one (ps_if (pt_cmpR op_eq (pv 2) pe_int (nomark _))
        (pss_one (ps_set (i := 6) sc_law_instruction.nd rfl (.inl rfl) pe_str))
        pss_nil)))
        pss_nil)
      (pss_cons (ps_if (pt_cmpR op_eq (pe_h h_law_draw (hr.mono (by decide)) (pa_cons (pv 0) (pa_cons pe_int pa_nil))) pe_int (nomark _))
        (pss_one (ps_set (i := 7) sc_law_instruction.nd rfl (.inl rfl) (pe_ix (ixL (K := K) rfl) (pe_lst (pa_cons (pe_un un_neg pe_int) (pa_cons pe_int (pa_cons pe_int pa_nil)))) (pe_h h_law_draw (hr.mono (by decide)) (pa_cons (pv 0) (pa_cons pe_int pa_nil))) (fun _ _ => rfl))))
        pss_nil)
      (pss_one (ps_ret (pe_tup (pa_cons (pv 6) (pa_cons (pv 7) pa_nil))))))))))))))), ?_⟩
  walk_at "fl.w"
  refine spD_app S [] w8D hS .nil ⟨rfl, rfl⟩ (fun vR H1 sm1 dR => ?_)
  obtain ⟨R, xs, rfl, nR, rR, hw8⟩ := w8E dR
  have hk1 := hk.same sm1
  walk_at "fl.q"
  rename_i kind H2 hk0 hk14 hk2 on2
  have St : ∀ (G : Hp), Fr [d] H1 G → Dk d s ns G → G R = some (.lst xs) ∧ (∀ (i : Nat) (ws : List Str), W8[i]? = some ws → ∃ l, atI xs (i : Int) = some (.ref l) ∧ G l = some (.lst (ws.map V.str))) := fun G f _ => by
    have ns : ∀ {x : Addr}, x ∉ S → x ∉ [d] := fun h m => h (by rw [List.mem_singleton.mp m]; exact hdS)
    refine ⟨f _ _ (ns nR) rR, fun i ws h => ?_⟩
    obtain ⟨l, al, nl, rl⟩ := hw8 i ws h
    exact ⟨l, al, f _ _ (ns nl) rl⟩
  refine g_J (fun σ' G => ∃ k u6 u7, σ' = [some (.ref d), some (.int hh), some (.int ff), some (.int ll), some (.ref R), some (.int k), u6, u7] ∧ 0 ≤ k ∧ k ≤ 10 ∧ Dk d s ns G ∧ Fr [d] H1 G) (fun N hN => ?_) (fun σ' G hJ => ?_)
  · have z : ∀ (k : Int) (G : Hp), 0 ≤ k → k ≤ 10 → Dk d s ns G → Fr [d] H1 G → N [some (.ref d), some (.int hh), some (.int ff), some (.int ll), some (.ref R), some (.int k), none, none] G := fun k G a b c e => hN _ _ ⟨k, _, _, rfl, a, b, c, e⟩
    walk_at "fl.w"
    refine g_ite (fun c1 => ?_) (fun c1 => ?_)
    · walk_at "fl.w"
      rename_i v3 H3 _ _ hk3 on3
      refine g_ite (fun c2 => ?_) (fun c2 => ?_)
      · walk_at "fl.w"
        exact z 0 _ (by decide) (by decide) hk3 (on2.trans on3).fr
      · walk_at "fl.w"
        refine g_ite (fun c3 => ?_) (fun c3 => ?_)
        · walk_at "fl.w"
          exact z 0 _ (by decide) (by decide) hk3 (on2.trans on3).fr
        · walk_at "fl.w"
          exact z kind _ hk0 (by omega) hk3 (on2.trans on3).fr
    · walk_at "fl.w"
      refine g_ite (fun c3 => ?_) (fun c3 => ?_)
      · walk_at "fl.w"
        exact z 0 _ (by decide) (by decide) hk2 on2.fr
      · walk_at "fl.w"
        exact z kind _ hk0 (by omega) hk2 on2.fr
  clear hk2 on2 hk0 hk14
  obtain ⟨k, u6, u7, rfl, k0, k10, hk2, fr2⟩ := hJ
  walk_at "fl.q"
  refine g_J (fun σ' G => ∃ wd u7, σ' = [some (.ref d), some (.int hh), some (.int ff), some (.int ll), some (.ref R), some (.int k), some (.str wd), u7] ∧ wd ∈ allW ∧ Dk d s ns G ∧ Fr [d] H1 G) (fun N hN => ?_) (fun σ' G hJ => ?_)
  · have z : ∀ (wd : Str) (G : Hp), wd ∈ allW → Dk d s ns G → Fr [d] H1 G → N [some (.ref d), some (.int hh), some (.int ff), some (.int ll), some (.ref R), some (.int k), some (.str wd), u7] G := fun wd G a c e => hN _ _ ⟨wd, _, rfl, a, c, e⟩
    obtain ⟨rR2, hw2⟩ := St _ fr2 hk2
    walk_at "fl.w"
    refine g_ite (fun c1 => ?_) (fun c1 => ?_)
    · obtain ⟨ws, hws⟩ : ∃ ws, W8[k.toNat]? = some ws := ⟨_, List.getElem?_eq_getElem (show k.toNat < W8.length from (by show k.toNat < 8; omega))⟩
      obtain ⟨l, al, rl⟩ := hw2 _ _ hws
      rw [show ((k.toNat : Nat) : Int) = k by omega] at al
      have mws := List.mem_of_getElem? hws
      obtain ⟨wl0, wl1⟩ := w8_len ws mws
      have lws : (ws.map V.str).length = ws.length := List.length_map _
      walk_at "fl.w"
      rename_i v3 H3 v30 v31 hk3 on3
      have rl3 := on3.fr.mono (fun x m => m) _ _ (by
        have := (hw8 _ _ hws)
        obtain ⟨l', al', nl', _⟩ := this
        rw [show ((k.toNat : Nat) : Int) = k by omega] at al'
        cases al.symm.trans al'
        exact fun m => nl' (by rw [List.mem_singleton.mp m]; exact hdS)) rl
      have hv : v3.toNat < ws.length := by omega
      have hat : atI (ws.map V.str) v3 = some (.str ws[v3.toNat]) := atI_of v30 (by rw [List.getElem?_map, List.getElem?_eq_getElem hv]; rfl)
      walk_at "fl.w"
      exact z _ _ (w8_all ws mws _ (List.getElem_mem hv)) hk3 (fr2.trans on3.fr)
    · have hm : 0 ≤ k % 3 ∧ k % 3 < 3 := ⟨Int.emod_nonneg _ (by decide), Int.emod_lt_of_pos _ (by decide)⟩
      obtain ⟨ws, hws, wl⟩ := w8_five (5 + k % 3).toNat (by omega) (by omega)
      obtain ⟨l, al, nl, rl0⟩ := hw8 _ _ hws
      have nld : l ∉ [d] := fun m => nl (by rw [List.mem_singleton.mp m]; exact hdS)
      have rl := fr2 _ _ nld rl0
      rw [show (((5 + k % 3).toNat : Nat) : Int) = 5 + k % 3 by omega] at al
      have mws := List.mem_of_getElem? hws
      walk_at "fl.w"
      rename_i v3 H3 v30 v31 hk3 on3
      have rl3 := on3.fr _ _ nld rl
      have hv : v3.toNat < ws.length := by omega
      have hat : atI (ws.map V.str) v3 = some (.str ws[v3.toNat]) := atI_of v30 (by rw [List.getElem?_map, List.getElem?_eq_getElem hv]; rfl)
      walk_at "fl.w"
      exact z _ _ (w8_all ws mws _ (List.getElem_mem hv)) hk3 (fr2.trans on3.fr)
  clear hk2 fr2
  obtain ⟨wd, u7, rfl, hwd, hk2, fr2⟩ := hJ
  walk_at "fl.q"
  rename_i n0 H4 n00 n06 hk4 on4
  have fr4 := fr2.trans on4.fr
  clear hk2 fr2 on4
  refine g_J (fun σ' G => ∃ n, σ' = [some (.ref d), some (.int hh), some (.int ff), some (.int ll), some (.ref R), some (.int k), some (.str wd), some (.int n)] ∧ B32 n ∧ Dk d s ns G ∧ Fr [d] H1 G) (fun N hN => ?_) (fun σ' G hJ => ?_)
  · have z : ∀ (n : Int) (G : Hp), B32 n → Dk d s ns G → Fr [d] H1 G → N [some (.ref d), some (.int hh), some (.int ff), some (.int ll), some (.ref R), some (.int k), some (.str wd), some (.int n)] G := fun n G a c e => hN _ _ ⟨n, rfl, a, c, e⟩
    walk_at "fl.w"
    refine g_ite (fun c1 => ?_) (fun c1 => ?_)
    · walk_at "fl.w"
      rename_i a1 H5 a10 a15 hk5 on5 a2 H6 a20 a29 hk6 on6 a3 H7 a30 a39 hk7 on7 L1 hL1 L2 hL2 a4 H8 a40 a49 hk8 on8
      obtain ⟨k4, e4, k40, k41⟩ := nine_at a40 a49
      have nL1d : L1 ≠ d := hk7.ned hL1
      have nL2d : L2 ≠ d := (hk7.same (Fl.Same.new hL1)).ned hL2
      refine g_ixL (SqL.of (on8.fr _ _ (by simpa using nL2d) upd_same)) e4 ?_
      obtain ⟨n, en, bn⟩ := four_at (a := a1) (b := a2 - 200) (c := 2147483648 - 1 - a3) (e := -2147483648) k40 k41 (by constructor <;> omega) (by constructor <;> omega) (by constructor <;> omega) (by constructor <;> omega)
      refine g_ixL (SqL.of (on8.fr _ _ (by simpa using nL1d) (raw_new hL2 upd_same))) en ?_
      walk_at "fl.w"
      exact z n _ bn hk8 (((((fr4.trans on5.fr).trans on6.fr).trans on7.fr).trans ((Fr.same (Fl.Same.new hL1)).trans (Fr.same (Fl.Same.new hL2)))).trans on8.fr)
    · walk_at "fl.w"
      exact z _ _ (by constructor <;> omega) hk4 fr4
  clear hk4 fr4
  obtain ⟨n, rfl, hn, hk5, fr5⟩ := hJ
  walk_at "fl.q"
  refine g_J (fun σ' G => ∃ n, σ' = [some (.ref d), some (.int hh), some (.int ff), some (.int ll), some (.ref R), some (.int k), some (.str wd), some (.int n)] ∧ B32 n ∧ Dk d s ns G ∧ Fr [d] H1 G) (fun N hN => ?_) (fun σ' G hJ => ?_)
  · have z : ∀ (n : Int) (G : Hp), B32 n → Dk d s ns G → Fr [d] H1 G → N [some (.ref d), some (.int hh), some (.int ff), some (.int ll), some (.ref R), some (.int k), some (.str wd), some (.int n)] G := fun n G a c e => hN _ _ ⟨n, rfl, a, c, e⟩
    walk_at "fl.w"
    rename_i L1 hL1
    refine g_inL (xs := jzL.map V.str) (SqL.of upd_same) rfl (strs_flat _) ?_
    rw [strs_in]
    have hk6 := hk5.newH (u := .lst [.str "jump", .str "jumpzero"]) hL1
    have fr6 := fr5.trans (Fr.same (Fl.Same.new (o := .lst [.str "jump", .str "jumpzero"]) hL1))
    walk_at "fl.w"
    refine g_ite (fun c1 => ?_) (fun c1 => ?_)
    · walk_at "fl.w"
      rename_i a1 H7 a10 a14 hk7 on7
      exact z _ _ (by constructor <;> (repeat (first | split | omega))) hk7 (fr6.trans on7.fr)
    · walk_at "fl.w"
      exact z n _ hn hk6 fr6
  clear hk5 fr5
  obtain ⟨n, rfl, hn, hk5, fr5⟩ := hJ
  walk_at "fl.q"
  refine g_J (fun σ' G => ∃ wd n, σ' = [some (.ref d), some (.int hh), some (.int ff), some (.int ll), some (.ref R), some (.int k), some (.str wd), some (.int n)] ∧ wd ∈ allW ∧ B32 n ∧ Dk d s ns G ∧ Fr [d] H1 G) (fun N hN => ?_) (fun σ' G hJ => ?_)
  · have z : ∀ (wd : Str) (n : Int) (G : Hp), wd ∈ allW → B32 n → Dk d s ns G → Fr [d] H1 G → N [some (.ref d), some (.int hh), some (.int ff), some (.int ll), some (.ref R), some (.int k), some (.str wd), some (.int n)] G := fun wd n G b a c e => hN _ _ ⟨wd, n, rfl, b, a, c, e⟩
    walk_at "fl.w"
    rename_i L1 hL1
    refine g_inL (xs := caL.map V.str) (SqL.of upd_same) rfl (strs_flat _) ?_
    rw [strs_in]
    have hk6 := hk5.newH (u := .lst [.str "call", .str "repeat"]) hL1
    have fr6 := fr5.trans (Fr.same (Fl.Same.new (o := .lst [.str "call", .str "repeat"]) hL1))
    walk_at "fl.w"
    refine g_ite (fun c1 => ?_) (fun c1 => ?_)
    · walk_at "fl.w"
      rename_i a1 H7 a10 a14 hk7 on7
      have bn : B32 a1 := by
        split at a14 <;> constructor <;> omega
      walk_at "fl.w"
      refine g_ite (fun c2 => ?_) (fun c2 => ?_)
      · walk_at "fl.w"
        exact z "push" a1 _ (by decide) bn hk7 (fr6.trans on7.fr)
      · walk_at "fl.w"
        exact z wd a1 _ hwd bn hk7 (fr6.trans on7.fr)
    · walk_at "fl.w"
      exact z wd n _ hwd hn hk6 fr6
  clear hk5 fr5 hwd hn
  obtain ⟨wd, n, rfl, hwd, hn, hk5, fr5⟩ := hJ
  walk_at "fl.q"
  refine g_J (fun σ' G => ∃ n, σ' = [some (.ref d), some (.int hh), some (.int ff), some (.int ll), some (.ref R), some (.int k), some (.str wd), some (.int n)] ∧ B32 n ∧ Dk d s ns G ∧ Fr [d] H1 G) (fun N hN => ?_) (fun σ' G hJ => ?_)
  · have z : ∀ (n : Int) (G : Hp), B32 n → Dk d s ns G → Fr [d] H1 G → N [some (.ref d), some (.int hh), some (.int ff), some (.int ll), some (.ref R), some (.int k), some (.str wd), some (.int n)] G := fun n G a c e => hN _ _ ⟨n, rfl, a, c, e⟩
    walk_at "fl.w"
    rename_i a1 H6 a10 a16 hk6 on6
    refine g_ite (fun c1 => ?_) (fun c1 => ?_)
    · walk_at "fl.w"
      rename_i L1 hL1 a2 H7 a20 a23 hk7 on7
      obtain ⟨m, em, bm⟩ := three_at a20 a23
      have nL1d : L1 ≠ d := hk6.ned hL1
      refine g_ixL (SqL.of (on7.fr _ _ (by simpa using nL1d) upd_same)) em ?_
      walk_at "fl.w"
      exact z m _ bm hk7 (((fr5.trans on6.fr).trans (Fr.same (Fl.Same.new hL1))).trans on7.fr)
    · walk_at "fl.w"
      exact z n _ hn hk6 (fr5.trans on6.fr)
  clear hk5 fr5 hn
  obtain ⟨n, rfl, hn, hk5, fr5⟩ := hJ
  walk_at "fl.w"
  rename_i t ht
  have al : Al S G := (hS.same sm1).fr fr5 (.cons hk5.hd .nil)
  exact q t _ (wd, n) (((Fr.same sm1).trans fr5).trans (Fr.same (Fl.Same.new ht))) (hk5.newH ht) (.tup (al.ni ht) upd_same (.cons (.str _) (.cons (.int _) .nil))) hwd hn
end

section
variable {P : Program} {w : World} {K : PySem.W.Frag} {mg : Str → Option Value} {base : Heap}
local macro_rules | `(tactic| walk_at "fl.t") => `(tactic| (with_reducible refine g_chainW ?_))
local macro_rules | `(tactic| walk_at "fl.t") => `(tactic| (with_reducible refine g_ifE ?_))
local macro_rules | `(tactic| walk_at "fl.w") => `(tactic| repeat walk_at "fl.t")
local macro_rules | `(tactic| walk_at "fl.q") => `(tactic| repeat ((fail_if_success (with_reducible refine g_if ?_)); walk_at "fl.t"))
theorem frFresh {T : List Addr} {H H' : Hp} {D : Addr} {o : HO} (f : Fl.Fr T H H') (h : H D = none) : Fl.Fr T H (upd H' D o) := fun x u n e => by
  by_cases q : x = D
  · rw [q, h] at e; cases e
  · rw [upd_ne q]; exact f x u n e
theorem al_of {S : List Addr} {d s : Addr} {ns : List Int} {H H' : Hp} (hS : Al S H) (f : Fl.Fr [d] H H') (k : Dk d s ns H') : Al S H' := hS.fr f (.cons k.hd .nil)
theorem dq_of {S : List Addr} {d : Addr} {H H' : Hp} {v : V} {x : PyData} (m : d ∈ S) (h : Dq S H v x) (f : Fl.Fr [d] H H') : Dq S H' v x := h.fr (f.mono fun a q => by rw [List.mem_singleton.mp q]; exact m)
theorem dqa_of {S : List Addr} {d : Addr} {H H' : Hp} {v : List V} {x : List PyData} (m : d ∈ S) (h : DqA S H v x) (f : Fl.Fr [d] H H') : DqA S H' v x := h.fr (f.mono fun a q => by rw [List.mem_singleton.mp q]; exact m)
/-- the code that stands at D while a deck is drawn from -/
structure CdAt (S : List Addr) (d s : Addr) (ns : List Int) (H0 : Hp) (D : Addr) (c : List In) (H : Hp) : Prop where
  ex : ∃ xs, H D = some (.lst xs) ∧ DqA (D :: S) H xs (c.map inD)
  f0 : H0 D = none
  k0 : Dk d s ns H0
  fr : Fl.Fr [d] H0 H
  dk : Dk d s ns H
  ok : ∀ r, r ∈ c → r.1 ∈ allW ∧ B32 r.2
theorem CdAt.al {S : List Addr} {d s : Addr} {ns : List Int} {H0 H : Hp} {D : Addr} {c : List In} (h : CdAt S d s ns H0 D c H) (hS : Al S H0) : Al (D :: S) H := by
  obtain ⟨xs, hx, _⟩ := h.ex
  exact .cons (by rw [hx]; simp) (al_of hS h.fr h.dk)
theorem CdAt.on {S : List Addr} {d s : Addr} {ns : List Int} {H0 H H' : Hp} {D : Addr} {c : List In} (h : CdAt S d s ns H0 D c H) (m : d ∈ S) (hS : Al S H0) (f : Fl.Fr [d] H H') (k : Dk d s ns H') : CdAt S d s ns H0 D c H' := by
  obtain ⟨xs, hx, hd⟩ := h.ex
  have hne : D ∉ [d] := fun q => hS D (by rw [List.mem_singleton.mp q]; exact m) h.f0
  exact ⟨⟨xs, f _ _ hne hx, dqa_of (List.mem_cons_of_mem _ m) hd f⟩, h.f0, h.k0, h.fr.trans f, k, h.ok⟩
theorem CdAt.put {S : List Addr} {d s : Addr} {ns : List Int} {H0 H : Hp} {D : Addr} {c : List In} {xs : List V} {v : V} {r : In} (h : CdAt S d s ns H0 D c H) (m : d ∈ S) (hS : Al S H0) (hx : H D = some (.lst xs)) (hv : Dq (D :: S) H v (inD r)) (hr : r.1 ∈ allW ∧ B32 r.2) : CdAt S d s ns H0 D (c ++ [r]) (upd H D (.lst (xs ++ [v]))) := by
  obtain ⟨ys, hy, hd⟩ := h.ex
  cases hx.symm.trans hy
  refine ⟨⟨xs ++ [v], upd_same, ?_⟩, h.f0, h.k0, frFresh h.fr h.f0, h.dk.put (h.k0.ned h.f0) (h.k0.nes h.f0), fun x q => ?_⟩
  · rw [List.map_append]
    exact (hd.app (.one hv)).fr (Fr.upd (by simp))
  · rcases List.mem_append.mp q with q | q
    · exact h.ok x q
    · rw [List.mem_singleton.mp q]; exact hr
/-- a code drawn: at most 20 instructions -/
def spCd : Sp := fun vs H Q _ => ∃ (S : List Addr) (d s : Addr) (ns : List Int) (most : Nat) (f : Int), vs = [.ref d, .int most, .int f] ∧ d ∈ S ∧ Al S H ∧ Dk d s ns H ∧ most ≤ 20 ∧ 0 ≤ f ∧ f ≤ 100 ∧
  ∀ t H' (c : List In), Fl.Fr [d] H H' → Dk d s ns H' → Dq S H' (.ref t) (codeD c) → c.length ≤ most → (∀ r, r ∈ c → r.1 ∈ allW ∧ B32 r.2) → Q (.ref t) H'
theorem ok_law_code (T : Txt K mg) : Has P w K mg base 3 "_law_code" ps_law_code spCd := by
  have h_law_instruction := ok_law_instruction (P := P) (w := w) (base := base) T
  have h_law_effect := ok_law_effect (P := P) (w := w) (base := base) T
  have h_law_draw := ok_law_draw (P := P) (w := w) (base := base) T
  refine has_of T.d_law_code sc_law_code bd_law_code (fun vs H Q E h => ?_) (fun f cdv A outer s H vs Q E hr h => ?_)
  · obtain ⟨S, d, s, ns, most, f, rfl, _⟩ := h
    rfl
  obtain ⟨S, d, s, ns, most, ff, rfl, hdS, hS, hk, hm, hf0, hf1, q⟩ := h
  refine ⟨_, (pss_cons (ps_set (i := 3) sc_law_code.nd rfl (.inl rfl) (pe_lst pa_nil))
      (pss_cons (ps_set (i := 4) sc_law_code.nd rfl (.inl rfl) pe_int)
      (pss_cons (ps_set (i := 5) sc_law_code.nd rfl (.inl rfl) (pe_h h_law_draw (hr.mono (by decide)) (pa_cons (pv 0) (pa_cons (pe_op op_add (pv 1) pe_int) pa_nil))))
      (pss_cons (ps_for PassesOwn.never rfl (pi_range1 (by rfl) T.z_range (pa_cons (pv 5) pa_nil)) (pg_name (i := 6) sc_law_code.nd rfl (.inl rfl))
        (pss_cons (ps_set (i := 7) sc_law_code.nd rfl (.inl rfl) (pe_h h_law_instruction (hr.mono (by decide)) (pa_cons (pv 0) (pa_cons (pv 4) (pa_cons (pv 2) (pa_cons (pe_op op_sub (pv 5) (pv 6)) pa_nil))))))
      (pss_cons (ps_set (i := 8) sc_law_code.nd rfl (.inl rfl) (pe_h h_law_effect (hr.mono (by decide)) (pa_cons (pe_ix (ixT (K := K) rfl) (pv 7) pe_int (fun _ _ => rfl)) pa_nil)))
      (pss_cons (ps_if (PW.pt (pw_and (pt_cmpR op_notN (pv 8) pe_non (nomark _)) (pw_and1 (pt_cmpR op_ge (pv 4) (pe_ix (ixT (K := K) rfl) (pv 8) pe_int (fun _ _ => rfl)) (nomark _)))))
        (pss_one (ps_set (i := 4) sc_law_code.nd rfl (.inl rfl) (pe_op op_add (pe_op op_sub (pv 4) (pe_ix (ixT (K := K) rfl) (pv 8) pe_int (fun _ _ => rfl))) (pe_ix (ixT (K := K) rfl) (pv 8) pe_int (fun _ _ => rfl)))))
        pss_nil)
      (pss_one (ps_expr (pe_bm PySem.F.plainAttrs_list PySem.F.slot_list_append PySem.F.type_list_append mt_append (pv 3) (pa_cons (pv 7) pa_nil))))))))
      (pss_one (ps_ret (pv 3))))))), ?_⟩
  walk_at "fl.w"
  rename_i D hD cnt H2 c0 c1 hk2 on2
  have hne : D ≠ d := hk.ned hD
  have C0 : CdAt S d s ns H D [] H2 := ⟨⟨[], on2.fr _ _ (by simpa using hne) upd_same, .nil⟩, hD, hk, (Fr.same (Fl.Same.new hD)).trans on2.fr, hk2, fun r m => nomatch m⟩
  refine forK_r (fun i σ' G => ∃ h u6 u7 u8 c, σ' = [some (.ref d), some (.int most), some (.int ff), some (.ref D), some (.int h), some (.int cnt), u6, u7, u8] ∧ c.length = i ∧ CdAt S d s ns H D c G) ⟨0, _, _, _, [], rfl, rfl, C0⟩ ?_ ?_
  · intro i σ' G hi ⟨h, u6, u7, u8, c, e, hl, C⟩
    subst e
    obtain ⟨xs, hx, hX⟩ := C.ex
    have lx := hX.len
    rw [List.length_map] at lx
    have alG := C.al hS
    rw [show (0 : Int) + (i : Int) = (i : Int) by omega]
    walk_at "fl.w"
    refine ⟨D :: S, d, s, ns, h, ff, cnt - (i : Int), rfl, List.mem_cons_of_mem _ hdS, alG, C.dk, hf0, hf1, fun t G2 r fg kg dr rw rb => ?_⟩
    have C2 := C.on hdS hS fg kg
    have hx2 : G2 D = some (.lst xs) := fg _ _ (by simpa using hne) hx
    obtain ⟨_, e, nt, rt⟩ := inE dr
    cases e
    walk_at "fl.w"
    refine spD_app (D :: S) [.str r.1] (opD (eff r.1)) (C2.al hS) (.cons (.str _) .nil) ⟨r.1, rfl, rfl⟩ (fun ve G3 sm3 de => ?_)
    have hx3 := sm3 _ _ hx2
    have C3 := C2.on hdS hS (Fr.same sm3) (C2.dk.same sm3)
    have dr3 := dr.same sm3
    walk_at "fl.q"
    refine g_J (fun σ' G => ∃ h, σ' = [some (.ref d), some (.int most), some (.int ff), some (.ref D), some (.int h), some (.int cnt), some (.int (i : Int)), some (.ref t), some ve] ∧ G = G3) (fun N hN => ?_) (fun σ' G hJ => ?_)
    · have z : ∀ (h : Int), N [some (.ref d), some (.int most), some (.int ff), some (.ref D), some (.int h), some (.int cnt), some (.int (i : Int)), some (.ref t), some ve] G3 := fun h => hN _ _ ⟨h, rfl, rfl⟩
      cases he : eff r.1 with
      | none =>
        rw [he] at de
        cases de.nonE
        walk_at "fl.w"
        refine g_iteN (fun z => absurd rfl z) (fun _ => ?_)
        walk_at "fl.w"
        exact z h
      | some e =>
        rw [he] at de
        obtain ⟨p, rfl, np, rp⟩ := prE de
        walk_at "fl.w"
        refine g_iteN (fun _ => ?_) (fun z => by cases z)
        walk_at "fl.w"
        refine g_ite (fun c1 => ?_) (fun c1 => ?_)
        · walk_at "fl.w"
          exact z _
        · walk_at "fl.w"
          exact z h
    · obtain ⟨h', rfl, rfl⟩ := hJ
      walk_at "fl.w"
      refine ⟨_, _, _, _, c ++ [r], rfl, by simp [hl], C3.put hdS hS hx3 dr3 ⟨rw, rb⟩⟩
  · intro σ' G ⟨h, u6, u7, u8, c, e, hl, C⟩
    subst e
    obtain ⟨xs, hx, hX⟩ := C.ex
    walk_at "fl.w"
    exact q D _ c C.fr C.dk (.lst (hS.ni hD) hx hX.tail) (by omega) C.ok
end

section
variable {P : Program} {w : World} {K : PySem.W.Frag} {mg : Str → Option Value} {base : Heap}
local macro_rules | `(tactic| walk_at "fl.t") => `(tactic| (with_reducible refine g_chainW ?_))
local macro_rules | `(tactic| walk_at "fl.t") => `(tactic| (with_reducible refine g_ifE ?_))
local macro_rules | `(tactic| walk_at "fl.w") => `(tactic| repeat walk_at "fl.t")
local macro_rules | `(tactic| walk_at "fl.q") => `(tactic| repeat ((fail_if_success (with_reducible refine g_if ?_)); walk_at "fl.t"))
/-- a list of data at D while a deck is drawn from -/
structure LsAt (S : List Addr) (d s : Addr) (ns : List Int) (H0 : Hp) (D : Addr) (ds : List PyData) (H : Hp) : Prop where
  ex : ∃ xs, H D = some (.lst xs) ∧ DqA (D :: S) H xs ds
  f0 : H0 D = none
  k0 : Dk d s ns H0
  fr : Fl.Fr [d] H0 H
  dk : Dk d s ns H
section
variable {S : List Addr} {d s : Addr} {ns : List Int} {H0 H H' : Hp} {D : Addr} {ds : List PyData}
theorem LsAt.al (h : LsAt S d s ns H0 D ds H) (hS : Al S H0) : Al (D :: S) H := by
  obtain ⟨xs, hx, _⟩ := h.ex
  exact .cons (by rw [hx]; simp) (al_of hS h.fr h.dk)
theorem LsAt.on (h : LsAt S d s ns H0 D ds H) (m : d ∈ S) (hS : Al S H0) (f : Fl.Fr [d] H H') (k : Dk d s ns H') : LsAt S d s ns H0 D ds H' := by
  obtain ⟨xs, hx, hd⟩ := h.ex
  have hne : D ∉ [d] := fun q => hS D (by rw [List.mem_singleton.mp q]; exact m) h.f0
  exact ⟨⟨xs, f _ _ hne hx, dqa_of (List.mem_cons_of_mem _ m) hd f⟩, h.f0, h.k0, h.fr.trans f, k⟩
theorem LsAt.put {xs : List V} {v : V} {r : PyData} (h : LsAt S d s ns H0 D ds H) (hx : H D = some (.lst xs)) (hv : Dq (D :: S) H v r) : LsAt S d s ns H0 D (ds ++ [r]) (upd H D (.lst (xs ++ [v]))) := by
  obtain ⟨ys, hy, hd⟩ := h.ex
  cases hx.symm.trans hy
  exact ⟨⟨xs ++ [v], upd_same, (hd.app (.one hv)).fr (Fr.upd (by simp))⟩, h.f0, h.k0, frFresh h.fr h.f0, h.dk.put (h.k0.ned h.f0) (h.k0.nes h.f0)⟩
end
theorem ints_ex : ∀ (rs : List PyData), (∀ r, r ∈ rs → ∃ n : Int, r = .int n) → ∃ ns : List Int, rs = ns.map PyData.int
  | [], _ => ⟨[], rfl⟩
  | r :: rs, h => by
    obtain ⟨n, rfl⟩ := h r List.mem_cons_self
    obtain ⟨ns, rfl⟩ := ints_ex rs fun r m => h r (List.mem_cons_of_mem _ m)
    exact ⟨n :: ns, rfl⟩
def spPm : Sp := fun vs H Q _ => ∃ (S : List Addr) (d s : Addr) (ns : List Int), vs = [.ref d] ∧ d ∈ S ∧ Al S H ∧ Dk d s ns H ∧
  ∀ t H' (g : Pg), Fl.Fr [d] H H' → Dk d s ns H' → Dq S H' (.ref t) (pgD g) → PgOk g → g.f.length ≤ 3 → Q (.ref t) H'
theorem ok_law_program (T : Txt K mg) : Has P w K mg base 4 "_law_program" ps_law_program spPm := by
  have h_law_code := ok_law_code (P := P) (w := w) (base := base) T
  have h_law_draw := ok_law_draw (P := P) (w := w) (base := base) T
  refine has_of T.d_law_program sc_law_program bd_law_program (fun vs H Q E h => ?_) (fun f cdv A outer s H vs Q E hr h => ?_)
  · obtain ⟨S, d, s, ns, rfl, _⟩ := h
    rfl
  obtain ⟨S, d, s, ns, rfl, hdS, hS, hk, q⟩ := h
  refine ⟨_, (pss_cons (ps_set (i := 1) sc_law_program.nd rfl (.inl rfl) (pe_lst pa_nil))
      (pss_cons (ps_for PassesOwn.never rfl (pi_range1 (by rfl) T.z_range (pa_cons (pe_h h_law_draw (hr.mono (by decide)) (pa_cons (pv 0) (pa_cons pe_int pa_nil))) pa_nil)) (pg_name (i := 2) sc_law_program.nd rfl (.inl rfl))
        (pss_one (ps_expr (pe_bm PySem.F.plainAttrs_list PySem.F.slot_list_append PySem.F.type_list_append mt_append (pv 1) (pa_cons (pe_h h_law_code (hr.mono (by decide)) (pa_cons (pv 0) (pa_cons pe_int (pa_cons (pv 2) pa_nil)))) pa_nil)))))
      (pss_cons (ps_set (i := 3) sc_law_program.nd rfl (.inl rfl) (pe_h h_law_code (hr.mono (by decide)) (pa_cons (pv 0) (pa_cons pe_int (pa_cons (pe_callB (clLen (K := K) rfl) (by rfl) T.z_len (by decide +kernel) (pa_cons (pv 1) pa_nil)) pa_nil)))))
      (pss_cons (ps_if (pt_cmpR op_eq (pe_h h_law_draw (hr.mono (by decide)) (pa_cons (pv 0) (pa_cons pe_int pa_nil))) pe_int (nomark _))
        (pss_one (ps_set (i := 3) sc_law_program.nd rfl (.inl rfl) (pe_op op_cat (pv 3) (pe_lst (pa_cons (pe_tup (pa_cons pe_str (pa_cons pe_int pa_nil))) pa_nil)))))
        pss_nil)
      (pss_one (ps_ret (pe_lst (pa_cons (pv 3) (pa_cons (pv 1) (pa_cons (pe_lc (own := [("k", 2)]) rfl sc_law_program.nd (pi_range1 (by rfl) T.z_range (pa_cons (pe_h h_law_draw (hr.mono (by decide)) (pa_cons (pv 0) (pa_cons pe_int pa_nil))) pa_nil)) (blkOk_by (by kernel_rfl)) (fun _ _ _ _ _ => (pg_name (i := 2) sc_law_program.nd rfl (.inl rfl))) (fun _ _ _ _ _ => pts_nil) (fun _ _ _ _ _ => (pe_op op_sub (pe_h h_law_draw (hr.mono (by decide)) (pa_cons (pv 0) (pa_cons pe_int pa_nil))) pe_int))) (pa_cons (pe_h h_law_draw (hr.mono (by decide)) (pa_cons (pv 0) (pa_cons pe_int pa_nil))) pa_nil))))))))))), ?_⟩
  walk_at "fl.w"
  rename_i D hD cnt H2 c0 c1 hk2 on2
  have hne : D ≠ d := hk.ned hD
  have C0 : LsAt S d s ns H D (([] : List (List In)).map codeD) H2 := ⟨⟨[], on2.fr _ _ (by simpa using hne) upd_same, .nil⟩, hD, hk, (Fr.same (Fl.Same.new hD)).trans on2.fr, hk2⟩
  have hnd : D ∉ [d] := by simpa using hne
  refine forK_r (fun i σ' G => ∃ u2 u3 fs, σ' = [some (.ref d), some (.ref D), u2, u3] ∧ fs.length = i ∧ LsAt S d s ns H D (fs.map codeD) G ∧ ∀ c, c ∈ fs → CodeOk c) ⟨_, _, [], rfl, rfl, C0, fun c m => nomatch m⟩ ?_ ?_
  · intro i σ' G hi ⟨u2, u3, fs, e, hl, C, hok⟩
    subst e
    obtain ⟨xs, hx, hX⟩ := C.ex
    have lx := hX.len
    rw [List.length_map] at lx
    rw [show (0 : Int) + (i : Int) = (i : Int) by omega]
    walk_at "fl.w"
    refine ⟨D :: S, d, s, ns, 4, (i : Int), rfl, List.mem_cons_of_mem _ hdS, C.al hS, C.dk, by decide, by omega, by omega, fun t G2 c fg kg dc cl cok => ?_⟩
    have C2 := C.on hdS hS fg kg
    have hx2 := fg _ _ hnd hx
    walk_at "fl.w"
    refine ⟨_, _, fs ++ [c], rfl, by simp [hl], by rw [List.map_append]; exact C2.put hx2 dc, fun x m => ?_⟩
    rcases List.mem_append.mp m with m | m
    · exact hok x m
    · rw [List.mem_singleton.mp m]; exact ⟨by omega, cok⟩
  · intro σ' G ⟨u2, u3, fs, e, hl, C, hok⟩
    subst e
    obtain ⟨xs, hx, hX⟩ := C.ex
    have lx := hX.len
    rw [List.length_map] at lx
    walk_at "fl.w"
    refine ⟨D :: S, d, s, ns, 14, ((xs.length : Nat) : Int), rfl, List.mem_cons_of_mem _ hdS, C.al hS, C.dk, by decide, by omega, by omega, fun t G2 c fg kg dc cl cok => ?_⟩
    have C2 := C.on hdS hS fg kg
    have hx2 := fg _ _ hnd hx
    walk_at "fl.q"
    refine g_J (fun σ' G => ∃ t m u3, σ' = [some (.ref d), some (.ref D), u3, some (.ref t)] ∧ Dq (D :: S) G (.ref t) (codeD m) ∧ CodeOk m ∧ LsAt S d s ns H D (fs.map codeD) G) (fun N hN => ?_) (fun σ' G hJ => ?_)
    · obtain ⟨_, ys, e, nt, rt, hY⟩ := dc.lstE
      cases e
      have ly := hY.len
      rw [List.length_map] at ly
      have htd : t ≠ d := fun e => nt (by rw [e]; exact List.mem_cons_of_mem _ hdS)
      walk_at "fl.w"
      rename_i a1 G3 a10 a18 hk3 on3
      have C3 := C2.on hdS hS on3.fr hk3
      have dc3 := dq_of (List.mem_cons_of_mem _ hdS) dc on3.fr
      have rt3 := on3.fr _ _ (by simpa using htd) rt
      refine g_ite (fun c1 => ?_) (fun c1 => ?_)
      · walk_at "fl.w"
        rename_i p1 hp1 p2 hp2 p3 hp3
        have s1 := (Fl.Same.new (o := .tup [.str "nothing", .int 0]) hp1)
        have s2 := s1.trans (Fl.Same.new (o := .lst [.ref p1]) hp2)
        have s3 := s2.trans (Fl.Same.new (o := .lst (ys ++ [.ref p1])) hp3)
        have al3 := C3.al hS
        have hY3 := (dqa_of (List.mem_cons_of_mem _ hdS) hY on3.fr).same s3
        refine hN _ _ ⟨p3, c ++ [(("nothing" : Str), (0 : Int))], _, rfl, ?_, ⟨by rw [List.length_append]; simp; omega, fun x m => ?_⟩, C3.on hdS hS (Fr.same s3) (C3.dk.same s3)⟩
        · refine .lst ((al3.same s2).ni hp3) upd_same ?_
          rw [List.map_append]
          exact hY3.app (.one (.tup (al3.ni hp1) (raw_new hp3 (raw_new hp2 upd_same)) (.cons (.str _) (.cons (.int _) .nil))))
        · rcases List.mem_append.mp m with m | m
          · exact cok x m
          · rw [List.mem_singleton.mp m]; exact ⟨by decide, by decide, by decide⟩
      · walk_at "fl.w"
        exact hN _ _ ⟨t, c, _, rfl, dc3, ⟨by omega, cok⟩, C3⟩
    clear C2 hx2 dc cl cok fg kg
    obtain ⟨t, m, u3, rfl, dm, mok, C⟩ := hJ
    obtain ⟨xs, hx, hX⟩ := C.ex
    have hkG := C.dk
    walk_at "fl.w"
    rename_i a1 G3 a10 a14 hk3 on3
    have C3 := C.on hdS hS on3.fr hk3
    have dm3 := dq_of (List.mem_cons_of_mem _ hdS) dm on3.fr
    have al3 := C3.al hS
    refine lcG [d] (fun G => Dk d s ns G) (fun r => ∃ n : Int, r = .int n) al3 (fun b m => by rw [List.mem_singleton.mp m]; exact List.mem_cons_of_mem _ hdS) hk3 (by omega) (fun G k => .cons k.hd .nil) (fun D' G o hD' k => k.put (hk3.ned hD') (hk3.nes hD')) ?_ ?_
    · intro D' i G hD' hi al k R hR
      refine ⟨rfl, ?_⟩
      walk_at "fl.w"
      rename_i a2 G4 _ _ hk4 on4
      exact hR _ _ _ on4.fr hk4 (.int _) ⟨_, rfl⟩
    intro D' G4 rs fr4 hk4 fD' hD' hl' hPr
    obtain ⟨ps, rfl⟩ := ints_ex rs hPr
    rw [List.length_map] at hl'
    have C4 := C3.on hdS hS fr4 hk4
    have dm4 := dq_of (List.mem_cons_of_mem _ hdS) dm3 fr4
    walk_at "fl.w"
    rename_i a5 G5 _ _ hk5 on5 p hp
    have C5 := C4.on hdS hS on5.fr hk5
    have dm5 := dq_of (List.mem_cons_of_mem _ hdS) dm4 on5.fr
    have dps := dq_of (List.mem_cons_of_mem _ hdS) hD' on5.fr
    obtain ⟨zs, hz, hZ⟩ := C5.ex
    have sm := Fl.Same.new (o := .lst [.ref t, .ref D, .ref D', .int a5]) hp
    have alS : Al S G5 := al_of hS C5.fr hk5
    have mn : ∀ x, x ∈ S → x ∈ D :: S := fun x m => List.mem_cons_of_mem _ m
    exact q p _ ⟨m, fs, ps, a5⟩ (C5.fr.trans (Fr.same sm)) (hk5.same sm) (.lst (alS.ni hp) upd_same (.cons ((dm5.mono mn).same sm) (.cons (Dq.same (.lst (hS.ni hD) hz hZ.tail) sm) (.cons ((dps.mono mn).same sm) (.cons (.int _) .nil))))) ⟨mok, hok, by show fs.length ≤ 20; omega, by show ps.length < 900; omega⟩ (by show fs.length ≤ 3; omega)
end

section
variable {P : Program} {w : World} {K : PySem.W.Frag} {mg : Str → Option Value} {base : Heap}
local macro_rules | `(tactic| walk_at "fl.t") => `(tactic| (with_reducible refine g_chainW ?_))
local macro_rules | `(tactic| walk_at "fl.t") => `(tactic| (with_reducible refine g_ifE ?_))
local macro_rules | `(tactic| walk_at "fl.w") => `(tactic| repeat walk_at "fl.t")
local macro_rules | `(tactic| walk_at "fl.q") => `(tactic| repeat ((fail_if_success (with_reducible refine g_if ?_)); walk_at "fl.t"))
theorem eff_small : ∀ x, x ∈ allW → ∀ e, eff x = some e → 0 ≤ e.1 ∧ e.1 ≤ 2 ∧ 0 ≤ e.2 ∧ e.2 ≤ 2 := by
  have : allW.all (fun x => match eff x with | none => true | some e => decide (0 ≤ e.1 ∧ e.1 ≤ 2 ∧ 0 ≤ e.2 ∧ e.2 ≤ 2)) = true := by decide +kernel
  intro x m e he
  have h := List.all_eq_true.mp this x m
  rw [he] at h
  exact of_decide_eq_true h
section
variable {S : List Addr} {d s : Addr} {ns : List Int} {H0 H H' G : Hp} {D p : Addr} {c c2 : List In} {xs zs : List V}
theorem free_of (f : Fl.Fr [d] H0 G) (k : Dk d s ns G) (h : G p = none) : H0 p = none := by
  cases e : H0 p with
  | none => rfl
  | some o =>
    have hp : p ≠ d := fun q => by rw [q] at h; exact k.hd h
    rw [f p o (by simpa using hp) e] at h
    cases h
theorem CdAt.cat (h : CdAt S d s ns H0 D c G) (hS : Al S H0) (hx : G D = some (.lst xs)) (sm : Same G H') (hp : H' p = none) (hz : DqA S H' zs (c2.map inD)) (ok : ∀ r, r ∈ c2 → r.1 ∈ allW ∧ B32 r.2) : CdAt S d s ns H0 p (c ++ c2) (upd H' p (.lst (xs ++ zs))) := by
  obtain ⟨ys, hy, hd⟩ := h.ex
  cases hx.symm.trans hy
  have hk := h.dk.same sm
  have f0 : H0 p = none := free_of (h.fr.trans (Fr.same sm)) hk hp
  refine ⟨⟨xs ++ zs, upd_same, ?_⟩, f0, h.k0, frFresh (h.fr.trans (Fr.same sm)) f0, hk.newH hp, fun x m => ?_⟩
  · rw [List.map_append]
    exact ((((hd.same sm).mono fun x m => List.mem_cons_of_mem _ m).new hp).app (hz.new hp)).fr (Fr.upd (by simp))
  · rcases List.mem_append.mp m with m | m
    · exact h.ok x m
    · exact ok x m
end
theorem mem2 {x D : Addr} {S : List Addr} (m : x ∈ S) : x ∈ D :: S := List.mem_cons_of_mem _ m
theorem g_ifJ {c : TT} {ta tb : TS} {D : Ends} {σ : L2.St} {H : Hp} (J : Bool → Hp → Prop) (hc : ∀ R : Bool → Hp → Prop, (∀ b H1, J b H1 → R b H1) → c σ H R) (h : ∀ b H1, J b H1 → if b = true then ta D σ H1 else tb D σ H1) : tIfS c ta tb D σ H := hc _ h
def badL : List Str := ["jump", "jumpzero", "call", "repeat"]
def in2 (x : Str) (n : Int) : In := (x, n)
/-- a tame code: so that no height falls below 0 -/
def spTm (M : Nat) : Sp := fun vs H Q _ => ∃ (S : List Addr) (d s : Addr) (ns : List Int) (most : Nat) (f : Int) (L : Nat), vs = [.ref d, .int most, .int f, .int L] ∧ d ∈ S ∧ Al S H ∧ Dk d s ns H ∧ most ≤ 5 ∧ 0 ≤ f ∧ f ≤ 100 ∧ L < M ∧ L ≤ 1 ∧
  ∀ t H' (c : List In), Fl.Fr [d] H H' → Dk d s ns H' → Dq S H' (.ref t) (codeD c) → c.length ≤ (6 + 42 * L) * most + 22 → (∀ r, r ∈ c → r.1 ∈ allW ∧ B32 r.2) → Q (.ref t) H'
theorem tame_step (T : Txt K mg) {k M : Nat} (hk2 : 2 ≤ k) (h_law_tame : Has P w K mg base k "_law_tame" ps_law_tame (spTm M)) : Has P w K mg base (k + 1) "_law_tame" ps_law_tame (spTm (M + 1)) := by
  have h_law_instruction := ok_law_instruction (P := P) (w := w) (base := base) T
  have h_law_effect := ok_law_effect (P := P) (w := w) (base := base) T
  have h_law_draw := ok_law_draw (P := P) (w := w) (base := base) T
  refine has_of T.d_law_tame sc_law_tame bd_law_tame (fun vs H Q E h => ?_) (fun f cdv A outer s H vs Q E hr h => ?_)
  · obtain ⟨S, d, s, ns, most, f, L, rfl, _⟩ := h
    rfl
  obtain ⟨S, d, s, ns, most, ff, L, rfl, hdS, hS, hk, hm, hf0, hf1, hL0, hL1, q⟩ := h
  refine ⟨_, (pss_cons (ps_set (i := 4) sc_law_tame.nd rfl (.inl rfl) (pe_lst pa_nil))
      (pss_cons (ps_set (i := 5) sc_law_tame.nd rfl (.inl rfl) pe_int)
      (pss_cons (ps_for PassesOwn.never rfl (pi_range1 (by rfl) T.z_range (pa_cons (pe_h h_law_draw (hr.mono (by omega)) (pa_cons (pv 0) (pa_cons (pe_op op_add (pv 1) pe_int) pa_nil))) pa_nil)) (pg_name (i := 6) sc_law_tame.nd rfl (.inl rfl))
        (pss_cons (ps_set (i := 7) sc_law_tame.nd rfl (.inl rfl) (pe_h h_law_instruction (hr.mono (by omega)) (pa_cons (pv 0) (pa_cons (pv 5) (pa_cons (pv 2) (pa_cons pe_int pa_nil))))))
      (pss_cons (ps_set (i := 8) sc_law_tame.nd rfl (.inl rfl) (pe_h h_law_effect (hr.mono (by omega)) (pa_cons (pe_ix (ixT (K := K) rfl) (pv 7) pe_int (fun _ _ => rfl)) pa_nil)))
      (pss_cons (ps_if (PW.pt (pw_or (pt_cmpR (opIn (K := K) rfl) (pe_ix (ixT (K := K) rfl) (pv 7) pe_int (fun _ _ => rfl)) (pe_lst (pa_cons pe_str (pa_cons pe_str (pa_cons pe_str (pa_cons pe_str pa_nil))))) (by rfl)) (pw_or (pt_cmpR op_isN (pv 8) pe_non (nomark _)) (pw_or (pt_cmpR op_lt (pv 5) (pe_ix (ixT (K := K) rfl) (pv 8) pe_int (fun _ _ => rfl)) (nomark _)) (pw_or1 (pt_cmpR op_gt (pv 5) pe_int (nomark _)))))))
        (pss_cons (ps_set (i := 7) sc_law_tame.nd rfl (.inl rfl) (pe_tup (pa_cons pe_str (pa_cons (pe_h h_law_draw (hr.mono (by omega)) (pa_cons (pv 0) (pa_cons pe_int pa_nil))) pa_nil))))
      (pss_cons (ps_set (i := 8) sc_law_tame.nd rfl (.inl rfl) (pe_tup (pa_cons pe_int (pa_cons pe_int pa_nil))))
      (pss_one (ps_if (pt_cmpR op_gt (pv 5) pe_int (nomark _))
        (pss_cons (ps_set (i := 7) sc_law_tame.nd rfl (.inl rfl) (pe_tup (pa_cons pe_str (pa_cons pe_int pa_nil))))
      (pss_one (ps_set (i := 8) sc_law_tame.nd rfl (.inl rfl) (pe_tup (pa_cons pe_int (pa_cons pe_int pa_nil))))))
        pss_nil))))
        pss_nil)
      (pss_cons (ps_expr (pe_bm PySem.F.plainAttrs_list PySem.F.slot_list_append PySem.F.type_list_append mt_append (pv 4) (pa_cons (pv 7) pa_nil)))
      (pss_cons (ps_set (i := 5) sc_law_tame.nd rfl (.inl rfl) (pe_op op_add (pe_op op_sub (pv 5) (pe_ix (ixT (K := K) rfl) (pv 8) pe_int (fun _ _ => rfl))) (pe_ix (ixT (K := K) rfl) (pv 8) pe_int (fun _ _ => rfl))))
      (pss_cons (ps_if (PW.pt (pw_and (pt_cmpR op_gt (pv 2) pe_int (nomark _)) (pw_and1 (pt_cmpR op_eq (pe_h h_law_draw (hr.mono (by omega)) (pa_cons (pv 0) (pa_cons pe_int pa_nil))) pe_int (nomark _)))))
        (pss_one (ps_set (i := 4) sc_law_tame.nd rfl (.inl rfl) (pe_op op_cat (pv 4) (pe_lst (pa_cons (pe_tup (pa_cons pe_str (pa_cons (pe_op op_sub (pe_h h_law_draw (hr.mono (by omega)) (pa_cons (pv 0) (pa_cons pe_int pa_nil))) pe_int) pa_nil))) (pa_cons (pe_tup (pa_cons pe_str (pa_cons (pe_h h_law_draw (hr.mono (by omega)) (pa_cons (pv 0) (pa_cons (pv 2) pa_nil))) pa_nil))) pa_nil))))))
        pss_nil)
      (pss_cons (ps_if (PW.pt (pw_and (pt_cmpR op_gt (pv 2) pe_int (nomark _)) (pw_and1 (pt_cmpR op_eq (pe_h h_law_draw (hr.mono (by omega)) (pa_cons (pv 0) (pa_cons pe_int pa_nil))) pe_int (nomark _)))))
        (pss_one (ps_expr (pe_bm PySem.F.plainAttrs_list PySem.F.slot_list_append PySem.F.type_list_append mt_append (pv 4) (pa_cons (pe_tup (pa_cons pe_str (pa_cons (pe_h h_law_draw (hr.mono (by omega)) (pa_cons (pv 0) (pa_cons (pv 2) pa_nil))) pa_nil))) pa_nil))))
        pss_nil)
      (pss_cons (ps_if (PW.pt (pw_and (pt_cmpR op_gt (pv 3) pe_int (nomark _)) (pw_and1 (pt_cmpR op_eq (pe_h h_law_draw (hr.mono (by omega)) (pa_cons (pv 0) (pa_cons pe_int pa_nil))) pe_int (nomark _)))))
        (pss_cons (ps_set (i := 9) sc_law_tame.nd rfl (.inl rfl) (pe_h h_law_tame (hr.mono (by omega)) (pa_cons (pv 0) (pa_cons pe_int (pa_cons (pv 2) (pa_cons pe_int pa_nil))))))
      (pss_one (ps_set (i := 4) sc_law_tame.nd rfl (.inl rfl) (pe_op op_cat (pe_op op_cat (pv 4) (pe_lst (pa_cons (pe_tup (pa_cons pe_str (pa_cons (pe_op op_sub (pe_h h_law_draw (hr.mono (by omega)) (pa_cons (pv 0) (pa_cons pe_int pa_nil))) pe_int) pa_nil))) (pa_cons (pe_tup (pa_cons pe_str (pa_cons (pe_callB (clLen (K := K) rfl) (by rfl) T.z_len (by decide +kernel) (pa_cons (pv 9) pa_nil)) pa_nil))) pa_nil)))) (pv 9)))))
        pss_nil)
      (pss_one (ps_if (pt_cmpR op_eq (pe_h h_law_draw (hr.mono (by omega)) (pa_cons (pv 0) (pa_cons pe_int pa_nil))) pe_int (nomark _))
        (pss_one (ps_set (i := 4) sc_law_tame.nd rfl (.inl rfl) (pe_op op_cat (pv 4) (pe_lst (pa_cons (pe_tup (pa_cons pe_str (pa_cons pe_int pa_nil))) (pa_cons (pe_tup (pa_cons pe_str (pa_cons pe_int pa_nil))) pa_nil))))))
        pss_nil)))))))))))
      (pss_one (ps_ret (pe_op op_cat (pv 4) (pe_lc (own := [("k", 6)]) rfl sc_law_tame.nd (pi_range1 (by rfl) T.z_range (pa_cons (pv 5) pa_nil)) (blkOk_by (by kernel_rfl)) (fun _ _ _ _ _ => (pg_name (i := 6) sc_law_tame.nd rfl (.inl rfl))) (fun _ _ _ _ _ => pts_nil) (fun _ _ _ _ _ => (pe_tup (pa_cons pe_str (pa_cons pe_int pa_nil))))))))))), ?_⟩
  walk_at "fl.w"
  rename_i D hD cnt H2 c0 c1 hkk on2
  have hne : D ≠ d := hk.ned hD
  have C0 : CdAt S d s ns H D [] H2 := ⟨⟨[], on2.fr _ _ (by simpa using hne) upd_same, .nil⟩, hD, hk, (Fr.same (Fl.Same.new hD)).trans on2.fr, hkk, fun r m => nomatch m⟩
  clear hkk on2 hne
  obtain ⟨B, hB⟩ : ∃ B, B = 6 + 42 * L := ⟨_, rfl⟩
  refine forK_r (fun i σ' G => ∃ D h u6 u7 u8 u9 c, σ' = [some (.ref d), some (.int most), some (.int ff), some (.int L), some (.ref D), some (.int h), u6, u7, u8, u9] ∧ c.length ≤ B * i ∧ 0 ≤ h ∧ h ≤ 22 ∧ CdAt S d s ns H D c G) ⟨D, 0, _, _, _, _, [], rfl, by simp, by decide, by decide, C0⟩ ?_ ?_
  · clear C0 hD D
    intro i σ' G hi ⟨D, h, u6, u7, u8, u9, c, e, hl, h0, h22, C⟩
    subst e
    have hBi : B * i ≤ 48 * 5 := Nat.mul_le_mul (by omega) (by omega)
    have hD := C.f0
    have hnd : D ∉ [d] := by have := hk.ned hD; simpa using this
    obtain ⟨xs, hx, hX⟩ := C.ex
    have lx := hX.len
    rw [List.length_map] at lx
    rw [show (0 : Int) + (i : Int) = (i : Int) by omega]
    walk_at "fl.w"
    refine ⟨D :: S, d, s, ns, h, ff, 1, rfl, mem2 hdS, C.al hS, C.dk, hf0, hf1, fun t G2 r fg kg dr rw rb => ?_⟩
    have C2 := C.on hdS hS fg kg
    have hx2 : G2 D = some (.lst xs) := fg _ _ hnd hx
    have dr0 := dr
    obtain ⟨_, e, nt, rt⟩ := inE dr
    cases e
    walk_at "fl.w"
    refine spD_app (D :: S) [.str r.1] (opD (eff r.1)) (C2.al hS) (.cons (.str _) .nil) ⟨r.1, rfl, rfl⟩ (fun ve G3 sm3 de => ?_)
    have C3 := C2.on hdS hS (Fr.same sm3) (C2.dk.same sm3)
    have dr3 := dr0.same sm3
    have rt3 := sm3 _ _ rt
    clear C2 C fg kg dr0 dr hx hx2 hX
    walk_at "fl.q"
    refine g_J (fun σ' G => ∃ t r p e, σ' = [some (.ref d), some (.int most), some (.int ff), some (.int L), some (.ref D), some (.int h), some (.int (i : Int)), some (.ref t), some (.ref p), u9] ∧ Dq (D :: S) G (.ref t) (inD r) ∧ Dq (D :: S) G (.ref p) (Fl.prD e) ∧ r.1 ∈ allW ∧ B32 r.2 ∧ 0 ≤ h - e.1 + e.2 ∧ h - e.1 + e.2 ≤ 22 ∧ CdAt S d s ns H D c G) (fun N hN => ?_) (fun σ' G hJ => ?_)
    · have z : ∀ (G : Hp) (t : Addr) (r : In) (p : Addr) (e : Pr), CdAt S d s ns H D c G → Dq (D :: S) G (.ref t) (inD r) → Dq (D :: S) G (.ref p) (Fl.prD e) → r.1 ∈ allW → B32 r.2 → 0 ≤ h - e.1 + e.2 → h - e.1 + e.2 ≤ 22 → N [some (.ref d), some (.int most), some (.int ff), some (.int L), some (.ref D), some (.int h), some (.int (i : Int)), some (.ref t), some (.ref p), u9] G := fun G t r p e a b b2 c1 c2 c3 c4 => hN _ _ ⟨t, r, p, e, rfl, b, b2, c1, c2, c3, c4, a⟩
      refine g_ifJ (fun b G => Same G3 G ∧ (b = false → ∃ e p, ve = .ref p ∧ eff r.1 = some e ∧ Dq (D :: S) G (.ref p) (Fl.prD e) ∧ e.1 ≤ h ∧ h ≤ 20)) (fun R hR => ?_) (fun b G hb => ?_)
      · walk_at "fl.w"
        rename_i L1 hL1
        refine g_inL (xs := badL.map V.str) (SqL.of upd_same) rfl (strs_flat _) ?_
        rw [strs_in]
        have s1 : Same G3 _ := Fl.Same.new (o := .lst [.str "jump", .str "jumpzero", .str "call", .str "repeat"]) hL1
        walk_at "fl.w"
        refine g_ite (fun c1 => ?_) (fun c1 => ?_)
        · exact hR _ _ ⟨s1, fun z => nomatch z⟩
        walk_at "fl.w"
        cases he : eff r.1 with
        | none =>
          rw [he] at de
          cases de.nonE
          refine g_ite (fun _ => ?_) (fun z => absurd rfl z)
          exact hR _ _ ⟨s1, fun z => nomatch z⟩
        | some e =>
          rw [he] at de
          have de1 := Dq.same de s1
          obtain ⟨p, rfl, np, rp⟩ := prE de1
          refine g_ite (fun z => by cases z) (fun _ => ?_)
          walk_at "fl.w"
          refine g_ite (fun c2 => ?_) (fun c2 => ?_)
          · exact hR _ _ ⟨s1, fun z => nomatch z⟩
          walk_at "fl.w"
          exact hR _ _ ⟨s1, fun z => ⟨e, p, rfl, he, de1, by omega, by simpa using z⟩⟩
      · obtain ⟨sG, hb⟩ := hb
        cases b with
        | false =>
          obtain ⟨e, p, rfl, he, de1, e1, e2⟩ := hb rfl
          obtain ⟨b1, b2, b3, b4⟩ := eff_small _ rw e he
          walk_at "fl.w"
          exact z G t r p e (C3.on hdS hS (Fr.same sG) (C3.dk.same sG)) (dr3.same sG) de1 rw rb (by omega) (by omega)
        | true =>
          have CG := C3.on hdS hS (Fr.same sG) (C3.dk.same sG)
          have hkG := CG.dk
          walk_at "fl.q"
          rename_i v1 G4 v10 v15 hk4 on4 t1 ht1 p1 hp1
          have s1 := (Fl.Same.new (o := .tup [.str "push", .int v1]) ht1)
          have s2 := s1.trans (Fl.Same.new (o := .tup [.int 0, .int 1]) hp1)
          have C4 := CG.on hdS hS on4.fr hk4
          have al4 := C4.al hS
          have C5 := C4.on hdS hS (Fr.same s2) (hk4.same s2)
          have dt1 : Dq (D :: S) (upd (upd G4 t1 (.tup [.str "push", .int v1])) p1 (.tup [.int 0, .int 1])) (.ref t1) (inD (in2 "push" v1)) := .tup (al4.ni ht1) (raw_new hp1 upd_same) (.cons (.str _) (.cons (.int _) .nil))
          have dp1 : Dq (D :: S) (upd (upd G4 t1 (.tup [.str "push", .int v1])) p1 (.tup [.int 0, .int 1])) (.ref p1) (Fl.prD (0, 1)) := .tup ((al4.same s1).ni hp1) upd_same (.cons (.int _) (.cons (.int _) .nil))
          walk_at "fl.w"
          refine g_ite (fun c1 => ?_) (fun c1 => ?_)
          · walk_at "fl.w"
            rename_i t2 ht2 p2 hp2
            have s3 := (Fl.Same.new (o := .tup [.str "drop", .int 0]) ht2)
            have s4 := s3.trans (Fl.Same.new (o := .tup [.int 1, .int 0]) hp2)
            have al5 := C5.al hS
            refine z _ t2 (in2 "drop" 0) p2 (1, 0) (C5.on hdS hS (Fr.same s4) (C5.dk.same s4)) (.tup (al5.ni ht2) (raw_new hp2 upd_same) (.cons (.str _) (.cons (.int _) .nil))) (.tup ((al5.same s3).ni hp2) upd_same (.cons (.int _) (.cons (.int _) .nil))) ?_ ?_ ?_ ?_
            · show ("drop" : Str) ∈ allW; decide
            · show B32 0; exact ⟨by decide, by decide⟩
            · show 0 ≤ h - 1 + 0; omega
            · show h - 1 + 0 ≤ 22; omega
          · walk_at "fl.w"
            refine z _ t1 (in2 "push" v1) p1 (0, 1) C5 dt1 dp1 ?_ ?_ ?_ ?_
            · show ("push" : Str) ∈ allW; decide
            · show B32 v1; constructor <;> omega
            · show 0 ≤ h - 0 + 1; omega
            · show h - 0 + 1 ≤ 22; omega
    clear C3 dr3 rt3 de sm3 rw rb nt rt
    obtain ⟨t, r, p, e, rfl, dt, dp, rw, rb, e0, e22, C⟩ := hJ
    obtain ⟨xs, hx, hX⟩ := C.ex
    have lx := hX.len
    rw [List.length_map] at lx
    have C2 := C.put hdS hS hx dt ⟨rw, rb⟩
    obtain ⟨pp, e', np, rp⟩ := prE dp
    cases e'
    have rp2 : (upd G D (.lst (xs ++ [.ref t]))) p = some (.tup [.int e.1, .int e.2]) := by rw [upd_ne (fun q => np (by rw [q]; exact List.mem_cons_self))]; exact rp
    walk_at "fl.q"
    generalize upd G D (.lst (xs ++ [.ref t])) = G2 at C2 rp2
    have l2 : (c ++ [r]).length ≤ B * i + 1 := by rw [List.length_append]; simp; omega
    generalize c ++ [r] = c at C2 l2
    clear C hx hX dt dp rw rb rp rp2 np hl
    generalize h - e.1 + e.2 = h at e0 e22
    have hDd : D ≠ d := hk.ned hD
    obtain ⟨xs, hx, hX⟩ := C2.ex
    have lx := hX.len
    rw [List.length_map] at lx
    have hk2 := C2.dk
    refine g_J (fun σ' G => ∃ D h c u7 u8 u9, σ' = [some (.ref d), some (.int most), some (.int ff), some (.int L), some (.ref D), some (.int h), some (.int (i : Int)), u7, u8, u9] ∧ c.length ≤ B * i + 3 ∧ 0 ≤ h ∧ h ≤ 22 ∧ CdAt S d s ns H D c G) (fun N hN => ?_) (fun σ' G hJ => ?_)
    · have z : ∀ (D : Addr) (c : List In) (G : Hp), CdAt S d s ns H D c G → c.length ≤ B * i + 3 → N [some (.ref d), some (.int most), some (.int ff), some (.int L), some (.ref D), some (.int h), some (.int (i : Int)), some (.ref t), some (.ref p), u9] G := fun D c G a b => hN _ _ ⟨D, h, c, _, _, _, rfl, b, e0, e22, a⟩
      walk_at "fl.w"
      refine g_ite (fun q0 => ?_) (fun q0 => ?_)
      · walk_at "fl.w"
        rename_i v1 G3 v10 v11 hk3 on3
        have C3 := C2.on hdS hS on3.fr hk3
        refine g_ite (fun q1 => ?_) (fun q1 => ?_)
        · walk_at "fl.w"
          rename_i v2 G4 v20 v25 hk4 on4 t1 ht1 v3 G5 v30 v36 hk5 on5 t2 ht2 l1 hl1 p1 hp1
          have s1 := Fl.Same.new (o := .tup [.str "push", .int (v2 - 1)]) ht1
          have al4 := al_of (al_of hS C3.fr hk3) on4.fr hk4
          have al5 := al_of (al4.same s1) on5.fr hk5
          have d1 : Dq S G5 (.ref t1) (inD (in2 "push" (v2 - 1))) := dq_of hdS (.tup (al4.ni ht1) upd_same (.cons (.str _) (.cons (.int _) .nil))) on5.fr
          have C5 := (C3.on hdS hS ((on4.fr.trans (Fr.same s1)).trans on5.fr) hk5)
          have s2 := Fl.Same.new (o := .tup [.str "repeat", .int v3]) ht2
          have s3 := s2.trans (Fl.Same.new (o := .lst [.ref t1, .ref t2]) hl1)
          have d2 : Dq S (upd (upd G5 t2 (.tup [.str "repeat", .int v3])) l1 (.lst [.ref t1, .ref t2])) (.ref t2) (inD (in2 "repeat" v3)) := .tup (al5.ni ht2) (raw_new hl1 upd_same) (.cons (.str _) (.cons (.int _) .nil))
          refine z p1 (c ++ [in2 "push" (v2 - 1), in2 "repeat" v3]) _ (C5.cat hS (raw_on on5 hDd (raw_new ht1 (raw_on on4 hDd (raw_on on3 hDd hx)))) s3 hp1 (.cons (d1.same s3) (.cons d2 .nil)) (fun x m => ?_)) (by rw [List.length_append]; simp; omega)
          rcases List.mem_cons.mp m with rfl | m
          · exact ⟨by show ("push" : Str) ∈ allW; decide, by show B32 (v2 - 1); constructor <;> omega⟩
          · rw [List.mem_singleton.mp m]
            exact ⟨by show ("repeat" : Str) ∈ allW; decide, by show B32 v3; constructor <;> omega⟩
        · walk_at "fl.w"
          exact z D c _ C3 (by omega)
      · walk_at "fl.w"
        exact z D c _ C2 (by omega)
    clear C2 hx hX lx hk2 hDd l2 e0 e22
    obtain ⟨D, h, c, u7, u8, u9, rfl, l2, e0, e22, C2⟩ := hJ
    have hD := C2.f0
    have hDd : D ≠ d := hk.ned hD
    obtain ⟨xs, hx, hX⟩ := C2.ex
    have lx := hX.len
    rw [List.length_map] at lx
    have hk2 := C2.dk
    walk_at "fl.q"
    refine g_J (fun σ' G => ∃ D h c u7 u8 u9, σ' = [some (.ref d), some (.int most), some (.int ff), some (.int L), some (.ref D), some (.int h), some (.int (i : Int)), u7, u8, u9] ∧ c.length ≤ B * i + 4 ∧ 0 ≤ h ∧ h ≤ 22 ∧ CdAt S d s ns H D c G) (fun N hN => ?_) (fun σ' G hJ => ?_)
    · have z : ∀ (D : Addr) (c : List In) (G : Hp), CdAt S d s ns H D c G → c.length ≤ B * i + 4 → N [some (.ref d), some (.int most), some (.int ff), some (.int L), some (.ref D), some (.int h), some (.int (i : Int)), u7, u8, u9] G := fun D c G a b => hN _ _ ⟨D, h, c, _, _, _, rfl, b, e0, e22, a⟩
      walk_at "fl.w"
      refine g_ite (fun q0 => ?_) (fun q0 => ?_)
      · walk_at "fl.w"
        rename_i v1 G3 v10 v11 hk3 on3
        have C3 := C2.on hdS hS on3.fr hk3
        have hx3 := raw_on on3 hDd hx
        refine g_ite (fun q1 => ?_) (fun q1 => ?_)
        · walk_at "fl.w"
          rename_i v2 G4 v20 v25 hk4 on4 t1 ht1
          have s1 := Fl.Same.new (o := .tup [.str "call", .int v2]) ht1
          have C4 := C3.on hdS hS (on4.fr.trans (Fr.same s1)) (hk4.same s1)
          have al4 := (C3.on hdS hS on4.fr hk4).al hS
          exact z D (c ++ [in2 "call" v2]) _ (C4.put hdS hS (raw_new ht1 (raw_on on4 hDd hx3)) (.tup (al4.ni ht1) upd_same (.cons (.str _) (.cons (.int _) .nil))) ⟨by show ("call" : Str) ∈ allW; decide, by show B32 v2; constructor <;> omega⟩) (by rw [List.length_append]; simp; omega)
        · walk_at "fl.w"
          exact z D c _ C3 (by omega)
      · walk_at "fl.w"
        exact z D c _ C2 (by omega)
    clear C2 hx hX lx hk2 hDd l2 e0 e22
    obtain ⟨D, h, c, u7, u8, u9, rfl, l2, e0, e22, C2⟩ := hJ
    have hD := C2.f0
    have hDd : D ≠ d := hk.ned hD
    obtain ⟨xs, hx, hX⟩ := C2.ex
    have lx := hX.len
    rw [List.length_map] at lx
    have hk2 := C2.dk
    walk_at "fl.q"
    refine g_J (fun σ' G => ∃ D h c u7 u8 u9, σ' = [some (.ref d), some (.int most), some (.int ff), some (.int L), some (.ref D), some (.int h), some (.int (i : Int)), u7, u8, u9] ∧ c.length ≤ B * i + 4 + 42 * L ∧ 0 ≤ h ∧ h ≤ 22 ∧ CdAt S d s ns H D c G) (fun N hN => ?_) (fun σ' G hJ => ?_)
    · have z : ∀ (D : Addr) (c : List In) (u9 : Option V) (G : Hp), CdAt S d s ns H D c G → c.length ≤ B * i + 4 + 42 * L → N [some (.ref d), some (.int most), some (.int ff), some (.int L), some (.ref D), some (.int h), some (.int (i : Int)), u7, u8, u9] G := fun D c u9 G a b => hN _ _ ⟨D, h, c, _, _, _, rfl, b, e0, e22, a⟩
      walk_at "fl.w"
      refine g_ite (fun q0 => ?_) (fun q0 => ?_)
      · walk_at "fl.w"
        rename_i v1 G3 v10 v11 hk3 on3
        have C3 := C2.on hdS hS on3.fr hk3
        have hx3 := raw_on on3 hDd hx
        refine g_ite (fun q1 => ?_) (fun q1 => ?_)
        · walk_at "fl.w"
          refine ⟨D :: S, d, s, ns, 3, ff, 0, rfl, mem2 hdS, C3.al hS, hk3, by decide, hf0, hf1, by omega, by decide, fun ti G4 ci f4 hk4 dci lci oci => ?_⟩
          have C4 := C3.on hdS hS f4 hk4
          have hx4 := f4 _ _ (by simpa using hDd) hx3
          obtain ⟨_, ys, e, nti, rti, hY⟩ := dci.lstE
          cases e
          have ly := hY.len
          rw [List.length_map] at ly
          have htd : ti ≠ d := fun e => nti (by rw [e]; exact mem2 hdS)
          walk_at "fl.w"
          rename_i v2 G5 v20 v23 hk5 on5 t1 ht1 t2 ht2 l1 hl1 p1 hp1 p2 hp2
          have s1 := Fl.Same.new (o := .tup [.str "push", .int (v2 - 1)]) ht1
          have s2 := s1.trans (Fl.Same.new (o := .tup [.str "jumpzero", .int ys.length]) ht2)
          have s3 := s2.trans (Fl.Same.new (o := .lst [.ref t1, .ref t2]) hl1)
          have s4 := s3.trans (Fl.Same.new (o := .lst (xs ++ [.ref t1, .ref t2])) hp1)
          have C5 := C4.on hdS hS on5.fr hk5
          have al5 := al_of hS C5.fr hk5
          have mn : ∀ x, x ∈ S → x ∈ D :: S := fun x m => mem2 m
          have d1 : Dq S (upd (upd (upd (upd G5 t1 (.tup [.str "push", .int (v2 - 1)])) t2 (.tup [.str "jumpzero", .int ys.length])) l1 (.lst [.ref t1, .ref t2])) p1 (.lst (xs ++ [.ref t1, .ref t2]))) (.ref t1) (inD (in2 "push" (v2 - 1))) := .tup (al5.ni ht1) (raw_new hp1 (raw_new hl1 (raw_new ht2 upd_same))) (.cons (.str _) (.cons (.int _) .nil))
          have d2 : Dq S (upd (upd (upd (upd G5 t1 (.tup [.str "push", .int (v2 - 1)])) t2 (.tup [.str "jumpzero", .int ys.length])) l1 (.lst [.ref t1, .ref t2])) p1 (.lst (xs ++ [.ref t1, .ref t2]))) (.ref t2) (inD (in2 "jumpzero" ys.length)) := .tup ((al5.same s1).ni ht2) (raw_new hp1 (raw_new hl1 upd_same)) (.cons (.str _) (.cons (.int _) .nil))
          have hYS : DqA S (upd (upd (upd (upd G5 t1 (.tup [.str "push", .int (v2 - 1)])) t2 (.tup [.str "jumpzero", .int ys.length])) l1 (.lst [.ref t1, .ref t2])) p1 (.lst (xs ++ [.ref t1, .ref t2]))) ys (ci.map inD) := (dqa_of hdS (hY.mono mn) on5.fr).same s4
          rw [List.append_assoc]
          refine z p2 (c ++ ([in2 "push" (v2 - 1), in2 "jumpzero" ys.length] ++ ci)) _ _ (C5.cat hS (raw_on on5 hDd hx4) s4 hp2 (by rw [List.map_append]; exact (DqA.cons d1 (.cons d2 .nil)).app hYS) (fun x m => ?_)) (by simp only [List.length_append, List.length_cons, List.length_nil]; omega)
          rcases List.mem_append.mp m with m | m
          · rcases List.mem_cons.mp m with rfl | m
            · exact ⟨by show ("push" : Str) ∈ allW; decide, by show B32 (v2 - 1); constructor <;> omega⟩
            · rw [List.mem_singleton.mp m]
              exact ⟨by show ("jumpzero" : Str) ∈ allW; decide, by show B32 (ys.length : Int); constructor <;> omega⟩
          · exact oci x m
        · walk_at "fl.w"
          exact z D c _ _ C3 (by omega)
      · walk_at "fl.w"
        exact z D c _ _ C2 (by omega)
    clear C2 hx hX lx hk2 hDd l2 e0 e22
    obtain ⟨D, h, c, u7, u8, u9, rfl, l2, e0, e22, C2⟩ := hJ
    have hD := C2.f0
    have hDd : D ≠ d := hk.ned hD
    obtain ⟨xs, hx, hX⟩ := C2.ex
    have lx := hX.len
    rw [List.length_map] at lx
    have hk2 := C2.dk
    walk_at "fl.w"
    rename_i v1 G3 v10 v11 hk3 on3
    have C3 := C2.on hdS hS on3.fr hk3
    have hx3 := raw_on on3 hDd hx
    have hBi1 : B * (i + 1) = B * i + B := Nat.mul_succ _ _
    refine g_ite (fun q1 => ?_) (fun q1 => ?_)
    · walk_at "fl.w"
      rename_i t1 ht1 t2 ht2 l1 hl1 p1 hp1
      have s1 := Fl.Same.new (o := .tup [.str "jump", .int 1]) ht1
      have s2 := s1.trans (Fl.Same.new (o := .tup [.str "drop", .int 0]) ht2)
      have s3 := s2.trans (Fl.Same.new (o := .lst [.ref t1, .ref t2]) hl1)
      have al5 := al_of hS C3.fr hk3
      have d1 : Dq S (upd (upd (upd G3 t1 (.tup [.str "jump", .int 1])) t2 (.tup [.str "drop", .int 0])) l1 (.lst [.ref t1, .ref t2])) (.ref t1) (inD (in2 "jump" 1)) := .tup (al5.ni ht1) (raw_new hl1 (raw_new ht2 upd_same)) (.cons (.str _) (.cons (.int _) .nil))
      have d2 : Dq S (upd (upd (upd G3 t1 (.tup [.str "jump", .int 1])) t2 (.tup [.str "drop", .int 0])) l1 (.lst [.ref t1, .ref t2])) (.ref t2) (inD (in2 "drop" 0)) := .tup ((al5.same s1).ni ht2) (raw_new hl1 upd_same) (.cons (.str _) (.cons (.int _) .nil))
      refine ⟨p1, h, _, _, _, _, c ++ [in2 "jump" 1, in2 "drop" 0], rfl, by rw [List.length_append]; simp; omega, e0, e22, C3.cat hS hx3 s3 hp1 (.cons d1 (.cons d2 .nil)) (fun x m => ?_)⟩
      rcases List.mem_cons.mp m with rfl | m
      · exact ⟨by show ("jump" : Str) ∈ allW; decide, by show B32 1; exact ⟨by decide, by decide⟩⟩
      · rw [List.mem_singleton.mp m]
        exact ⟨by show ("drop" : Str) ∈ allW; decide, by show B32 0; exact ⟨by decide, by decide⟩⟩
    · walk_at "fl.w"
      exact ⟨D, h, _, _, _, _, c, rfl, by omega, e0, e22, C3⟩
  · intro σ' G ⟨D, h, u6, u7, u8, u9, c, e, hl, h0, h22, C⟩
    subst e
    obtain ⟨xs, hx, hX⟩ := C.ex
    have lx := hX.len
    rw [List.length_map] at lx
    have hcm : B * cnt.toNat ≤ B * most := Nat.mul_le_mul_left B (by omega)
    have hB5 : B * most ≤ 48 * 5 := Nat.mul_le_mul (by omega) hm
    rw [hB] at hcm hB5 hl
    have hk2 := C.dk
    walk_at "fl.w"
    refine lcR (S := D :: S) (fun _ => some (inD (in2 "drop" 0))) (C.al hS) (by omega) ?_ ?_
    · intro D2 j G2 hD2 hj sm al R N hR hN
      refine g_name ⟨rfl, ?_⟩
      walk_at "fl.w"
      rename_i tt htt
      exact hR _ _ _ rfl (Fl.Same.new htt) (.tup (al.ni htt) upd_same (.cons (.str _) (.cons (.int _) .nil)))
    · intro D2 G2 sm2 fD2 hD2
      have er : (List.range h.toNat).filterMap (fun _ => some (inD (in2 "drop" 0))) = (List.replicate h.toNat (in2 "drop" 0)).map inD := by
        generalize h.toNat = n
        induction n with
        | zero => rfl
        | succ n ih => rw [List.range_succ, List.filterMap_append, ih, List.replicate_succ', List.map_append]; rfl
      rw [er] at hD2
      obtain ⟨_, zs, e, nz, rz, hZ⟩ := hD2.lstE
      cases e
      have lz := hZ.len
      rw [List.length_map, List.length_replicate] at lz
      have hx2 := sm2 _ _ hx
      have C2 := C.on hdS hS (Fr.same sm2) (hk2.same sm2)
      walk_at "fl.w"
      rename_i p hp
      have mn : ∀ x, x ∈ S → x ∈ D :: S := fun x m => mem2 m
      have C3 := C2.cat hS hx2 (Same.refl _) hp (hZ.mono mn) (fun x m => by
        rw [List.eq_of_mem_replicate m]
        exact ⟨by show ("drop" : Str) ∈ allW; decide, by show B32 0; exact ⟨by decide, by decide⟩⟩)
      obtain ⟨zz, hzz, hZZ⟩ := C3.ex
      exact q p _ (c ++ List.replicate h.toNat (in2 "drop" 0)) C3.fr C3.dk (.lst (hS.ni C3.f0) hzz hZZ.tail) (by rw [List.length_append, List.length_replicate]; omega) C3.ok
def spNo : Sp := fun _ _ _ _ => False
theorem tame_0 (T : Txt K mg) : Has P w K mg base 3 "_law_tame" ps_law_tame (spTm 0) := by
  refine has_of T.d_law_tame sc_law_tame bd_law_tame (fun vs H Q E h => ?_) (fun f cdv A outer s H vs Q E hr h => ?_)
  · obtain ⟨_, _, _, _, _, _, L, _, _, _, _, _, _, _, h, _⟩ := h
    omega
  · obtain ⟨_, _, _, _, _, _, L, _, _, _, _, _, _, _, h, _⟩ := h
    omega
theorem ok_law_tame (T : Txt K mg) : Has P w K mg base 5 "_law_tame" ps_law_tame (spTm 2) := tame_step T (by decide) (tame_step T (by decide) (tame_0 T))
end

section
variable {P : Program} {w : World} {K : PySem.W.Frag} {mg : Str → Option Value} {base : Heap}
local macro_rules | `(tactic| walk_at "fl.t") => `(tactic| (with_reducible refine g_chainW ?_))
local macro_rules | `(tactic| walk_at "fl.t") => `(tactic| (with_reducible refine g_ifE ?_))
local macro_rules | `(tactic| walk_at "fl.w") => `(tactic| repeat walk_at "fl.t")
local macro_rules | `(tactic| walk_at "fl.q") => `(tactic| repeat ((fail_if_success (with_reducible refine g_if ?_)); walk_at "fl.t"))
theorem push_ex : ∀ (rs : List PyData), (∀ r, r ∈ rs → ∃ n : Int, 0 ≤ n ∧ n < 9 ∧ r = inD (in2 "push" n)) → ∃ c : List In, rs = c.map inD ∧ ∀ x, x ∈ c → x.1 ∈ allW ∧ B32 x.2
  | [], _ => ⟨[], rfl, fun x m => nomatch m⟩
  | r :: rs, h => by
    obtain ⟨n, n0, n9, rfl⟩ := h r List.mem_cons_self
    obtain ⟨c, rfl, hc⟩ := push_ex rs fun r m => h r (List.mem_cons_of_mem _ m)
    refine ⟨in2 "push" n :: c, rfl, fun x m => ?_⟩
    rcases List.mem_cons.mp m with rfl | m
    · exact ⟨by show ("push" : Str) ∈ allW; decide, by show B32 n; constructor <;> omega⟩
    · exact hc x m
theorem ok_law_tame_program (T : Txt K mg) : Has P w K mg base 6 "_law_tame_program" ps_law_tame_program spPm := by
  have h_law_tame := ok_law_tame (P := P) (w := w) (base := base) T
  have h_law_draw := ok_law_draw (P := P) (w := w) (base := base) T
  refine has_of T.d_law_tame_program sc_law_tame_program bd_law_tame_program (fun vs H Q E h => ?_) (fun f cdv A outer s H vs Q E hr h => ?_)
  · obtain ⟨S, d, s, ns, rfl, _⟩ := h
    rfl
  obtain ⟨S, d, s, ns, rfl, hdS, hS, hk, q⟩ := h
  refine ⟨_, (pss_cons (ps_set (i := 1) sc_law_tame_program.nd rfl (.inl rfl) (pe_lst pa_nil))
      (pss_cons (ps_for PassesOwn.never rfl (pi_range1 (by rfl) T.z_range (pa_cons (pe_h h_law_draw (hr.mono (by decide)) (pa_cons (pv 0) (pa_cons pe_int pa_nil))) pa_nil)) (pg_name (i := 2) sc_law_tame_program.nd rfl (.inl rfl))
        (pss_one (ps_expr (pe_bm PySem.F.plainAttrs_list PySem.F.slot_list_append PySem.F.type_list_append mt_append (pv 1) (pa_cons (pe_h h_law_tame (hr.mono (by decide)) (pa_cons (pv 0) (pa_cons pe_int (pa_cons (pe_callB (call_min' rfl) (by rfl) T.z_min (by decide +kernel) (pa_cons (pv 2) (pa_cons pe_int pa_nil))) (pa_cons (pe_h h_law_draw (hr.mono (by decide)) (pa_cons (pv 0) (pa_cons pe_int pa_nil))) pa_nil))))) pa_nil)))))
      (pss_cons (ps_set (i := 3) sc_law_tame_program.nd rfl (.inl rfl) (pe_h h_law_tame (hr.mono (by decide)) (pa_cons (pv 0) (pa_cons pe_int (pa_cons (pe_callB (clLen (K := K) rfl) (by rfl) T.z_len (by decide +kernel) (pa_cons (pv 1) pa_nil)) (pa_cons pe_int pa_nil))))))
      (pss_cons (ps_set (i := 3) sc_law_tame_program.nd rfl (.inl rfl) (pe_op op_cat (pv 3) (pe_lc (own := [("k", 2)]) rfl sc_law_tame_program.nd (pi_range1 (by rfl) T.z_range (pa_cons (pe_h h_law_draw (hr.mono (by decide)) (pa_cons (pv 0) (pa_cons pe_int pa_nil))) pa_nil)) (blkOk_by (by kernel_rfl)) (fun _ _ _ _ _ => (pg_name (i := 2) sc_law_tame_program.nd rfl (.inl rfl))) (fun _ _ _ _ _ => pts_nil) (fun _ _ _ _ _ => (pe_tup (pa_cons pe_str (pa_cons (pe_h h_law_draw (hr.mono (by decide)) (pa_cons (pv 0) (pa_cons pe_int pa_nil))) pa_nil)))))))
      (pss_one (ps_ret (pe_lst (pa_cons (pv 3) (pa_cons (pv 1) (pa_cons (pe_lc (own := [("k", 2)]) rfl sc_law_tame_program.nd (pi_range1 (by rfl) T.z_range (pa_cons (pe_h h_law_draw (hr.mono (by decide)) (pa_cons (pv 0) (pa_cons pe_int pa_nil))) pa_nil)) (blkOk_by (by kernel_rfl)) (fun _ _ _ _ _ => (pg_name (i := 2) sc_law_tame_program.nd rfl (.inl rfl))) (fun _ _ _ _ _ => pts_nil) (fun _ _ _ _ _ => (pe_op op_sub (pe_h h_law_draw (hr.mono (by decide)) (pa_cons (pv 0) (pa_cons pe_int pa_nil))) pe_int))) (pa_cons (pe_h h_law_draw (hr.mono (by decide)) (pa_cons (pv 0) (pa_cons pe_int pa_nil))) pa_nil))))))))))), ?_⟩
  walk_at "fl.w"
  rename_i D hD cnt H2 c0 c1 hk2 on2
  have hne : D ≠ d := hk.ned hD
  have C0 : LsAt S d s ns H D (([] : List (List In)).map codeD) H2 := ⟨⟨[], on2.fr _ _ (by simpa using hne) upd_same, .nil⟩, hD, hk, (Fr.same (Fl.Same.new hD)).trans on2.fr, hk2⟩
  have hnd : D ∉ [d] := by simpa using hne
  refine forK_r (fun i σ' G => ∃ u2 u3 fs, σ' = [some (.ref d), some (.ref D), u2, u3] ∧ fs.length = i ∧ LsAt S d s ns H D (fs.map codeD) G ∧ ∀ c, c ∈ fs → CodeOk c) ⟨_, _, [], rfl, rfl, C0, fun c m => nomatch m⟩ ?_ ?_
  · intro i σ' G hi ⟨u2, u3, fs, e, hl, C, hok⟩
    subst e
    obtain ⟨xs, hx, hX⟩ := C.ex
    have lx := hX.len
    rw [List.length_map] at lx
    rw [show (0 : Int) + (i : Int) = (i : Int) by omega]
    have hkG := C.dk
    walk_at "fl.w"
    rename_i v1 G1 v10 v12 hk1 on1
    have C1 := C.on hdS hS on1.fr hk1
    have hx1 := on1.fr _ _ hnd hx
    have ev : v1 = ((v1.toNat : Nat) : Int) := by omega
    rw [ev]
    refine ⟨D :: S, d, s, ns, 1, _, v1.toNat, rfl, List.mem_cons_of_mem _ hdS, C1.al hS, hk1, by decide, by split <;> omega, by split <;> omega, by omega, by omega, fun t G2 c fg kg dc cl cok => ?_⟩
    have cl : c.length ≤ 70 := by
      have : (6 + 42 * v1.toNat) * 1 ≤ 48 * 1 := Nat.mul_le_mul (by omega) (by decide)
      omega
    have C2 := C1.on hdS hS fg kg
    have hx2 := fg _ _ hnd hx1
    walk_at "fl.w"
    refine ⟨_, _, fs ++ [c], rfl, by simp [hl], by rw [List.map_append]; exact C2.put hx2 dc, fun x m => ?_⟩
    rcases List.mem_append.mp m with m | m
    · exact hok x m
    · rw [List.mem_singleton.mp m]; exact ⟨by omega, cok⟩
  · intro σ' G ⟨u2, u3, fs, e, hl, C, hok⟩
    subst e
    obtain ⟨xs, hx, hX⟩ := C.ex
    have lx := hX.len
    rw [List.length_map] at lx
    walk_at "fl.w"
    refine ⟨D :: S, d, s, ns, 5, ((xs.length : Nat) : Int), 1, rfl, List.mem_cons_of_mem _ hdS, C.al hS, C.dk, by decide, by omega, by omega, by decide, by decide, fun t G2 c fg kg dc cl cok => ?_⟩
    have C2 := C.on hdS hS fg kg
    have hx2 := fg _ _ hnd hx
    obtain ⟨_, ys, e, nt, rt, hY⟩ := dc.lstE
    cases e
    have ly := hY.len
    rw [List.length_map] at ly
    have htd : t ≠ d := fun e => nt (by rw [e]; exact List.mem_cons_of_mem _ hdS)
    walk_at "fl.w"
    rename_i a1 G3 a10 a13 hk3 on3
    have C3 := C2.on hdS hS on3.fr hk3
    have hY3 := dqa_of (List.mem_cons_of_mem _ hdS) hY on3.fr
    have rt3 := on3.fr _ _ (by simpa using htd) rt
    refine lcG [d] (fun G => Dk d s ns G) (fun r => ∃ n : Int, 0 ≤ n ∧ n < 9 ∧ r = inD (in2 "push" n)) (C3.al hS) (fun b m => by rw [List.mem_singleton.mp m]; exact List.mem_cons_of_mem _ hdS) hk3 (by omega) (fun G k => .cons k.hd .nil) (fun D' G o hD' k => k.put (hk3.ned hD') (hk3.nes hD')) ?_ ?_
    · intro D' i G hD' hi al k R hR
      refine ⟨rfl, ?_⟩
      walk_at "fl.w"
      rename_i a2 G4 a20 a29 hk4 on4 tt htt
      have al4 : Al (D' :: D :: S) G4 := al.fr on4.fr (.cons hk4.hd .nil)
      exact hR _ _ _ (on4.fr.trans (Fr.same (Fl.Same.new htt))) (hk4.newH htt) (.tup (al4.ni htt) upd_same (.cons (.str _) (.cons (.int _) .nil))) ⟨a2, a20, a29, rfl⟩
    intro D' G4 rs fr4 hk4 fD' hD' hl' hPr
    obtain ⟨c', rfl, ok'⟩ := push_ex rs hPr
    rw [List.length_map] at hl'
    have C4 := C3.on hdS hS fr4 hk4
    have hY4 := dqa_of (List.mem_cons_of_mem _ hdS) hY3 fr4
    have rt4 := fr4 _ _ (by simpa using htd) rt3
    obtain ⟨_, zs, e, nz, rz, hZ⟩ := hD'.lstE
    cases e
    have lz := hZ.len
    rw [List.length_map] at lz
    walk_at "fl.w"
    rename_i t2 ht2 a1 G6 a10 a14 hk6 on6
    have sm2 := Fl.Same.new (o := .lst (ys ++ zs)) ht2
    have C := C4.on hdS hS (Fr.same sm2) (hk4.same sm2)
    have al4 := C4.al hS
    have dm : Dq (D :: S) (upd G4 t2 (.lst (ys ++ zs))) (.ref t2) (codeD (c ++ c')) := by
      refine .lst (al4.ni ht2) upd_same ?_
      rw [List.map_append]
      exact (hY4.app hZ).same sm2
    have mok : CodeOk (c ++ c') := ⟨by rw [List.length_append]; omega, fun x m => by
      rcases List.mem_append.mp m with m | m
      · exact cok x m
      · exact ok' x m⟩
    generalize upd G4 t2 (.lst (ys ++ zs)) = G at dm C on6
    generalize c ++ c' = m at dm mok
    clear C2 C3 C4 hx2 dc cl cok fg kg hx hX
    have hk3 := hk6
    have on3 := on6
    have C3 := C.on hdS hS on3.fr hk3
    have dm3 := dq_of (List.mem_cons_of_mem _ hdS) dm on3.fr
    have al3 := C3.al hS
    refine lcG [d] (fun G => Dk d s ns G) (fun r => ∃ n : Int, r = .int n) al3 (fun b m => by rw [List.mem_singleton.mp m]; exact List.mem_cons_of_mem _ hdS) hk3 (by omega) (fun G k => .cons k.hd .nil) (fun D' G o hD' k => k.put (hk3.ned hD') (hk3.nes hD')) ?_ ?_
    · intro D' i G hD' hi al k R hR
      refine ⟨rfl, ?_⟩
      walk_at "fl.w"
      rename_i a2 G4 _ _ hk4 on4
      exact hR _ _ _ on4.fr hk4 (.int _) ⟨_, rfl⟩
    intro D' G4 rs fr4 hk4 fD' hD' hl' hPr
    obtain ⟨ps, rfl⟩ := ints_ex rs hPr
    rw [List.length_map] at hl'
    have C4 := C3.on hdS hS fr4 hk4
    have dm4 := dq_of (List.mem_cons_of_mem _ hdS) dm3 fr4
    walk_at "fl.w"
    rename_i a5 G5 _ _ hk5 on5 p hp
    have C5 := C4.on hdS hS on5.fr hk5
    have dm5 := dq_of (List.mem_cons_of_mem _ hdS) dm4 on5.fr
    have dps := dq_of (List.mem_cons_of_mem _ hdS) hD' on5.fr
    obtain ⟨zs2, hz, hZ2⟩ := C5.ex
    have sm := Fl.Same.new (o := .lst [.ref t2, .ref D, .ref D', .int a5]) hp
    have alS : Al S G5 := al_of hS C5.fr hk5
    have mn : ∀ x, x ∈ S → x ∈ D :: S := fun x m => List.mem_cons_of_mem _ m
    exact q p _ ⟨m, fs, ps, a5⟩ (C5.fr.trans (Fr.same sm)) (hk5.same sm) (.lst (alS.ni hp) upd_same (.cons ((dm5.mono mn).same sm) (.cons (Dq.same (.lst (hS.ni hD) hz hZ2.tail) sm) (.cons ((dps.mono mn).same sm) (.cons (.int _) .nil))))) ⟨mok, hok, by show fs.length ≤ 20; omega, by show ps.length < 900; omega⟩ (by show fs.length ≤ 3; omega)
end

section
variable {P : Program} {w : World} {K : PySem.W.Frag} {mg : Str → Option Value} {base : Heap}
theorem g_slN {K : PySem.W.Frag} {H : Hp} {Q : VK} {a : Addr} {xs : List V} {n : Nat} (h : SqL K H a xs) (q : ∀ p, H p = none → Q (.ref p) (upd H p (.lst (xs.drop (n + 1))))) : rSlL K (.ref a) (some ((n : Int) + 1)) none H Q := g_slF (k := n + 1) h q
local macro_rules | `(tactic| walk_at "fl.t") => `(tactic| (with_reducible refine g_chainW ?_))
local macro_rules | `(tactic| walk_at "fl.t") => `(tactic| (with_reducible refine g_ifE ?_))
local macro_rules | `(tactic| walk_at "fl.t") => `(tactic| ((with_reducible apply g_slN); (focus walk_at "fl.lk"); intro _ _))
local macro_rules | `(tactic| walk_at "fl.w") => `(tactic| repeat walk_at "fl.t")
local macro_rules | `(tactic| walk_at "fl.q") => `(tactic| repeat ((fail_if_success (with_reducible refine g_if ?_)); walk_at "fl.t"))
theorem sh_tab (t : Tab) : SeqAt.shaped (tabD t) = true := sh_list (n := 1) (fun d m => by
  obtain ⟨o, _, rfl⟩ := List.mem_map.mp m
  cases o with
  | none => exact ⟨rfl, by decide⟩
  | some p => exact ⟨rfl, Nat.le_refl 1⟩) (by decide)
theorem eqv_tab0 (t : Tab) : PyData.eqv (tabD t) (.list []) = decide (t = []) := by
  cases t with
  | nil => rfl
  | cons o t => cases o <;> rfl
theorem three_v {k : Int} {a b c : V} (h0 : 0 ≤ k) (h1 : k < 3) : ∃ v, atI [a, b, c] k = some v ∧ (v = a ∨ v = b ∨ v = c) := by
  have : k = 0 ∨ k = 1 ∨ k = 2 := by omega
  rcases this with rfl | rfl | rfl
  · exact ⟨a, rfl, .inl rfl⟩
  · exact ⟨b, rfl, .inr (.inl rfl)⟩
  · exact ⟨c, rfl, .inr (.inr rfl)⟩
/-- a table bent at one place, or all of it -/
def spBt : Sp := fun vs H Q _ => ∃ (S : List Addr) (d s : Addr) (ns : List Int) (t : Tab) (vt : V), vs = [.ref d, vt] ∧ d ∈ S ∧ Al S H ∧ Dk d s ns H ∧ Dq S H vt (tabD t) ∧ t.length ≤ 880 ∧
  ∀ v H' (t' : Tab), Fl.Fr [d] H H' → Dk d s ns H' → Dq S H' v (tabD t') → t'.length ≤ t.length + 1 → Q v H'
theorem ok_law_bent_table (T : Txt K mg) : Has P w K mg base 2 "_law_bent_table" ps_law_bent_table spBt := by
  have h_law_draw := ok_law_draw (P := P) (w := w) (base := base) T
  refine has_of T.d_law_bent_table sc_law_bent_table bd_law_bent_table (fun vs H Q E h => ?_) (fun f cdv A outer s H vs Q E hr h => ?_)
  · obtain ⟨S, d, s, ns, t, vt, rfl, _⟩ := h
    rfl
  obtain ⟨S, d, s, ns, t, vt, rfl, hdS, hS, hk, hT, hz, q⟩ := h
  obtain ⟨a, xs, rfl, na, ra, hX⟩ := hT.lstE
  have lx := hX.len
  rw [List.length_map] at lx
  refine ⟨_, (pss_cons (ps_if (pt_cmpR (opEqD (K := K) rfl hr.units) (pv 1) (pe_lst pa_nil) (nomark _))
        (pss_one (ps_ret (pe_lst (pa_cons pe_non pa_nil))))
        pss_nil)
      (pss_cons (ps_set (i := 2) sc_law_bent_table.nd rfl (.inl rfl) (pe_h h_law_draw (hr.mono (by decide)) (pa_cons (pv 0) (pa_cons (pe_callB (clLen (K := K) rfl) (by rfl) T.z_len (by decide +kernel) (pa_cons (pv 1) pa_nil)) pa_nil))))
      (pss_cons (ps_set (i := 3) sc_law_bent_table.nd rfl (.inl rfl) (pe_h h_law_draw (hr.mono (by decide)) (pa_cons (pv 0) (pa_cons pe_int pa_nil))))
      (pss_cons (ps_set (i := 4) sc_law_bent_table.nd rfl (.inl rfl) (pe_ix (ixL (K := K) rfl) (pv 1) (pv 2) (fun _ _ => rfl)))
      (pss_cons (ps_if (PW.pt (pw_and (pt_cmpR op_lt (pv 3) pe_int (nomark _)) (pw_and1 (pt_cmpR op_notN (pv 4) pe_non (nomark _)))))
        (pss_one (ps_ret (pe_op op_cat (pe_op op_cat (pe_slice (slL' (K := K) rfl) (pv 1) po_none (po_some (pv 2))) (pe_lst (pa_cons (pe_tup (pa_cons (pe_ix (ixT (K := K) rfl) (pv 4) pe_int (fun _ _ => rfl)) (pa_cons (pe_op op_sub (pe_op op_add (pe_ix (ixT (K := K) rfl) (pv 4) pe_int (fun _ _ => rfl)) (pe_h h_law_draw (hr.mono (by decide)) (pa_cons (pv 0) (pa_cons pe_int pa_nil)))) pe_int) pa_nil))) pa_nil))) (pe_slice (slL' (K := K) rfl) (pv 1) (po_some (pe_op op_add (pv 2) pe_int)) po_none))))
        pss_nil)
      (pss_cons (ps_if (PW.pt (pw_and (pt_cmpR op_eq (pv 3) pe_int (nomark _)) (pw_and1 (pt_cmpR op_notN (pv 4) pe_non (nomark _)))))
        (pss_one (ps_ret (pe_op op_cat (pe_op op_cat (pe_slice (slL' (K := K) rfl) (pv 1) po_none (po_some (pv 2))) (pe_lst (pa_cons (pe_tup (pa_cons (pe_op op_sub (pe_op op_add (pe_ix (ixT (K := K) rfl) (pv 4) pe_int (fun _ _ => rfl)) (pe_h h_law_draw (hr.mono (by decide)) (pa_cons (pv 0) (pa_cons pe_int pa_nil)))) pe_int) (pa_cons (pe_ix (ixT (K := K) rfl) (pv 4) pe_int (fun _ _ => rfl)) pa_nil))) pa_nil))) (pe_slice (slL' (K := K) rfl) (pv 1) (po_some (pe_op op_add (pv 2) pe_int)) po_none))))
        pss_nil)
      (pss_cons (ps_if (pt_cmpR op_eq (pv 3) pe_int (nomark _))
        (pss_one (ps_ret (pe_op op_cat (pe_op op_cat (pe_slice (slL' (K := K) rfl) (pv 1) po_none (po_some (pv 2))) (pe_lst (pa_cons pe_non pa_nil))) (pe_slice (slL' (K := K) rfl) (pv 1) (po_some (pe_op op_add (pv 2) pe_int)) po_none))))
        pss_nil)
      (pss_cons (ps_if (pt_cmpR op_eq (pv 3) pe_int (nomark _))
        (pss_one (ps_ret (pe_op op_cat (pe_op op_cat (pe_slice (slL' (K := K) rfl) (pv 1) po_none (po_some (pv 2))) (pe_lst (pa_cons (pe_tup (pa_cons (pe_h h_law_draw (hr.mono (by decide)) (pa_cons (pv 0) (pa_cons pe_int pa_nil))) (pa_cons (pe_h h_law_draw (hr.mono (by decide)) (pa_cons (pv 0) (pa_cons pe_int pa_nil))) pa_nil))) pa_nil))) (pe_slice (slL' (K := K) rfl) (pv 1) (po_some (pe_op op_add (pv 2) pe_int)) po_none))))
        pss_nil)
      (pss_cons (ps_if (pt_cmpR op_eq (pv 3) pe_int (nomark _))
        (pss_one (ps_ret (pe_ix (ixL (K := K) rfl) (pe_lst (pa_cons (pe_slice (slL' (K := K) rfl) (pv 1) (po_some pe_int) po_none) (pa_cons (pe_op op_cat (pv 1) (pe_lst (pa_cons (pe_tup (pa_cons pe_int (pa_cons pe_int pa_nil))) pa_nil))) (pa_cons (pe_lst pa_nil) pa_nil)))) (pe_h h_law_draw (hr.mono (by decide)) (pa_cons (pv 0) (pa_cons pe_int pa_nil))) (fun _ _ => rfl))))
        pss_nil)
      (pss_cons (ps_set (i := 5) sc_law_bent_table.nd rfl (.inl rfl) (pe_h h_law_draw (hr.mono (by decide)) (pa_cons (pv 0) (pa_cons pe_int pa_nil))))
      (pss_cons (ps_set (i := 6) sc_law_bent_table.nd rfl (.inl rfl) (pe_lst pa_nil))
      (pss_cons (ps_for PassesOwn.never rfl (piL (K := K) rfl (pv 1)) (pg_name (i := 7) sc_law_bent_table.nd rfl (.inl rfl))
        (pss_one (ps_if (pt_cmpR op_isN (pv 7) pe_non (nomark _))
        (pss_one (ps_expr (pe_bm PySem.F.plainAttrs_list PySem.F.slot_list_append PySem.F.type_list_append mt_append (pv 6) (pa_cons pe_non pa_nil))))
        (pss_one (ps_expr (pe_bm PySem.F.plainAttrs_list PySem.F.slot_list_append PySem.F.type_list_append mt_append (pv 6) (pa_cons (pe_tup (pa_cons (pe_ix (ixT (K := K) rfl) (pv 7) pe_int (fun _ _ => rfl)) (pa_cons (pe_op op_add (pe_ix (ixT (K := K) rfl) (pv 7) pe_int (fun _ _ => rfl)) (pv 5)) pa_nil))) pa_nil)))))))
      (pss_one (ps_ret (pv 6))))))))))))))), ?_⟩
  walk_at "fl.w"
  rename_i l0 hl0
  have sm0 := Fl.Same.new (o := .lst []) hl0
  have hT0 := hT.same sm0
  have al0 := hS.same sm0
  have hk0 := hk.newH (u := .lst []) hl0
  have fr0 : Fl.Fr [d] H (upd H l0 (.lst [])) := Fr.same sm0
  refine g_eqD (S := S) hT0 (.lst (hS.ni hl0) upd_same .nil) (sh_tab t) sh_nil ?_
  rw [eqv_tab0]
  walk_at "fl.w"
  refine g_ite (fun c0 => ?_) (fun c0 => ?_)
  · walk_at "fl.w"
    rename_i l1 hl1
    exact q _ _ [none] (fr0.trans (Fr.same (Fl.Same.new hl1))) (hk0.newH hl1) (.lst (al0.ni hl1) upd_same (.cons .non .nil)) (by simp)
  have hlen : 0 < t.length := by
    cases t with
    | nil => exact absurd rfl c0
    | cons o t => exact Nat.succ_pos _
  generalize upd H l0 (.lst []) = H0 at hT0 al0 hk0 fr0 sm0
  have ra0 := sm0 _ _ ra
  have hX0 := hX.same sm0
  walk_at "fl.q"
  rename_i at0' H1 at00 at01 hk1 on1 kd H2 kd0 kd9 hk2 on2
  obtain ⟨n, rfl⟩ : ∃ n : Nat, at0' = (n : Int) := ⟨at0'.toNat, by omega⟩
  have hn : n < t.length := by omega
  have nad : a ≠ d := fun e => na (by rw [e]; exact hdS)
  have fr2 : Fl.Fr [d] H H2 := (fr0.trans on1.fr).trans on2.fr
  have f02 : Fl.Fr [d] H0 H2 := on1.fr.trans on2.fr
  have ra2 := f02 _ _ (by simpa using nad) ra0
  have hX2 := dqa_of hdS hX0 f02
  have al2 := al_of hS fr2 hk2
  have htn : t[n]? = some t[n] := List.getElem?_eq_getElem hn
  obtain ⟨vi, hvi, di⟩ := hX2.getD (i := n) (d := opD t[n]) (by rw [List.getElem?_map, htn]; rfl)
  have avi : atI xs (n : Int) = some vi := atI_nat hvi
  generalize t[n] = it at htn di
  clear hT0 al0 hk0 hk1 on1 on2 ra0 hX0 f02
  have fin : ∀ (G : Hp) (o : Option Pr) (v : V) (l1 l2 l3 l4 l5 : Addr) (hl2 : G l2 = none) (hl3 : upd G l2 (.lst [v]) l3 = none) (hl4 : upd (upd G l2 (.lst [v])) l3 (.lst (xs.take n ++ [v])) l4 = none) (hl5 : upd (upd (upd G l2 (.lst [v])) l3 (.lst (xs.take n ++ [v]))) l4 (.lst (xs.drop (n + 1))) l5 = none), Fl.Fr [d] H2 G → Dk d s ns G → Dq S G v (opD o) →
      Q (.ref l5) (upd (upd (upd (upd G l2 (.lst [v])) l3 (.lst (xs.take n ++ [v]))) l4 (.lst (xs.drop (n + 1)))) l5 (.lst ((xs.take n ++ [v]) ++ xs.drop (n + 1)))) := fun G o v l1 l2 l3 l4 l5 hl2 hl3 hl4 hl5 f k dv => by
    have s1 := Fl.Same.new (o := .lst [v]) hl2
    have s2 := s1.trans (Fl.Same.new (o := .lst (xs.take n ++ [v])) hl3)
    have s3 := s2.trans (Fl.Same.new (o := .lst (xs.drop (n + 1))) hl4)
    have s4 := s3.trans (Fl.Same.new (o := .lst ((xs.take n ++ [v]) ++ xs.drop (n + 1))) hl5)
    have alG := al_of al2 f k
    have hXG := (dqa_of hdS hX2 f).same s4
    refine q _ _ (t.take n ++ [o] ++ t.drop (n + 1)) ((fr2.trans f).trans (Fr.same s4)) (k.same s4) (.lst ((alG.same s3).ni hl5) upd_same ?_) (by simp; omega)
    rw [List.map_append, List.map_append, List.map_take, List.map_drop]
    exact ((hXG.take n).app (.one (dv.same s4))).app (hXG.drop (n + 1))
  walk_at "fl.q"
  refine g_J (fun σ' G => σ' = [some (.ref d), some (.ref a), some (.int n), some (.int kd), some vi, none, none, none] ∧ H2 = G) (fun N hN => ?_) (fun σ' G hJ => ?_)
  · have z : N [some (.ref d), some (.ref a), some (.int n), some (.int kd), some vi, none, none, none] H2 := hN _ _ ⟨rfl, rfl⟩
    walk_at "fl.w"
    refine g_ite (fun c1 => ?_) (fun c1 => ?_)
    · walk_at "fl.w"
      cases it with
      | none =>
        cases di.nonE
        refine g_iteN (fun z => absurd rfl z) (fun _ => ?_)
        walk_at "fl.w"
        exact z
      | some p =>
        obtain ⟨pa, rfl, np, rp⟩ := prE di
        have npd : pa ≠ d := fun e => np (by rw [e]; exact hdS)
        refine g_iteN (fun _ => ?_) (fun z => by cases z)
        walk_at "fl.w"
        rename_i l1 hl1 v1 H3 v10 v15 hk3 on3 t1 ht1 l2 hl2 l3 hl3 l4 hl4 l5 hl5
        have s1 := Fl.Same.new (o := .lst (xs.take n)) hl1
        have s2 := Fl.Same.new (o := .tup [.int p.1, .int (p.2 + v1 - 1)]) ht1
        have f3 := (Fr.same s1).trans on3.fr
        exact fin _ (some (p.1, p.2 + v1 - 1)) _ l1 l2 l3 l4 l5 hl2 hl3 hl4 hl5 (f3.trans (Fr.same s2)) (hk3.same s2) (.tup ((al_of al2 f3 hk3).ni ht1) upd_same (.cons (.int _) (.cons (.int _) .nil)))
    · walk_at "fl.w"
      exact z
  obtain ⟨rfl, rfl⟩ := hJ
  walk_at "fl.q"
  refine g_J (fun σ' G => σ' = [some (.ref d), some (.ref a), some (.int n), some (.int kd), some vi, none, none, none] ∧ H2 = G) (fun N hN => ?_) (fun σ' G hJ => ?_)
  · have z : N [some (.ref d), some (.ref a), some (.int n), some (.int kd), some vi, none, none, none] H2 := hN _ _ ⟨rfl, rfl⟩
    walk_at "fl.w"
    refine g_ite (fun c1 => ?_) (fun c1 => ?_)
    · walk_at "fl.w"
      cases it with
      | none =>
        cases di.nonE
        refine g_iteN (fun z => absurd rfl z) (fun _ => ?_)
        walk_at "fl.w"
        exact z
      | some p =>
        obtain ⟨pa, rfl, np, rp⟩ := prE di
        have npd : pa ≠ d := fun e => np (by rw [e]; exact hdS)
        refine g_iteN (fun _ => ?_) (fun z => by cases z)
        walk_at "fl.w"
        rename_i l1 hl1 v1 H3 v10 v15 hk3 on3 t1 ht1 l2 hl2 l3 hl3 l4 hl4 l5 hl5
        have s1 := Fl.Same.new (o := .lst (xs.take n)) hl1
        have s2 := Fl.Same.new (o := .tup [.int (p.1 + v1 - 1), .int p.2]) ht1
        have f3 := (Fr.same s1).trans on3.fr
        exact fin _ (some (p.1 + v1 - 1, p.2)) _ l1 l2 l3 l4 l5 hl2 hl3 hl4 hl5 (f3.trans (Fr.same s2)) (hk3.same s2) (.tup ((al_of al2 f3 hk3).ni ht1) upd_same (.cons (.int _) (.cons (.int _) .nil)))
    · walk_at "fl.w"
      exact z
  obtain ⟨rfl, rfl⟩ := hJ
  walk_at "fl.q"
  refine g_J (fun σ' G => σ' = [some (.ref d), some (.ref a), some (.int n), some (.int kd), some vi, none, none, none] ∧ H2 = G) (fun N hN => ?_) (fun σ' G hJ => ?_)
  · have z : N [some (.ref d), some (.ref a), some (.int n), some (.int kd), some vi, none, none, none] H2 := hN _ _ ⟨rfl, rfl⟩
    walk_at "fl.w"
    refine g_ite (fun c1 => ?_) (fun c1 => ?_)
    · walk_at "fl.w"
      rename_i l1 hl1 l2 hl2 l3 hl3 l4 hl4 l5 hl5
      have s1 := Fl.Same.new (o := .lst (xs.take n)) hl1
      exact fin _ none _ l1 l2 l3 l4 l5 hl2 hl3 hl4 hl5 (Fr.same s1) (hk2.same s1) .non
    · walk_at "fl.w"
      exact z
  obtain ⟨rfl, rfl⟩ := hJ
  walk_at "fl.q"
  refine g_J (fun σ' G => σ' = [some (.ref d), some (.ref a), some (.int n), some (.int kd), some vi, none, none, none] ∧ H2 = G) (fun N hN => ?_) (fun σ' G hJ => ?_)
  · have z : N [some (.ref d), some (.ref a), some (.int n), some (.int kd), some vi, none, none, none] H2 := hN _ _ ⟨rfl, rfl⟩
    walk_at "fl.w"
    refine g_ite (fun c1 => ?_) (fun c1 => ?_)
    · walk_at "fl.w"
      rename_i l1 hl1 v1 H3 v10 v15 hk3 on3 v2 H4 v20 v25 hk4 on4 t1 ht1 l2 hl2 l3 hl3 l4 hl4 l5 hl5
      have s1 := Fl.Same.new (o := .lst (xs.take n)) hl1
      have s2 := Fl.Same.new (o := .tup [.int v1, .int v2]) ht1
      have f3 := ((Fr.same s1).trans on3.fr).trans on4.fr
      exact fin _ (some (v1, v2)) _ l1 l2 l3 l4 l5 hl2 hl3 hl4 hl5 (f3.trans (Fr.same s2)) (hk4.same s2) (.tup ((al_of al2 f3 hk4).ni ht1) upd_same (.cons (.int _) (.cons (.int _) .nil)))
    · walk_at "fl.w"
      exact z
  obtain ⟨rfl, rfl⟩ := hJ
  walk_at "fl.q"
  refine g_J (fun σ' G => σ' = [some (.ref d), some (.ref a), some (.int n), some (.int kd), some vi, none, none, none] ∧ H2 = G) (fun N hN => ?_) (fun σ' G hJ => ?_)
  · have z : N [some (.ref d), some (.ref a), some (.int n), some (.int kd), some vi, none, none, none] H2 := hN _ _ ⟨rfl, rfl⟩
    walk_at "fl.w"
    refine g_ite (fun c1 => ?_) (fun c1 => ?_)
    · walk_at "fl.w"
      rename_i l1 hl1 t1 ht1 l2 hl2 l3 hl3 l4 hl4 l5 hl5 v1 H3 v10 v13 hk3 on3
      have s1 := Fl.Same.new (o := .lst (xs.drop 1)) hl1
      have s2 := s1.trans (Fl.Same.new (o := .tup [.int 0, .int 3]) ht1)
      have s3 := s2.trans (Fl.Same.new (o := .lst [.ref t1]) hl2)
      have s4 := s3.trans (Fl.Same.new (o := .lst (xs ++ [.ref t1])) hl3)
      have s5 := s4.trans (Fl.Same.new (o := .lst []) hl4)
      have s6 := s5.trans (Fl.Same.new (o := .lst [.ref l1, .ref l3, .ref l4]) hl5)
      have nl5 : l5 ≠ d := (hk2.same s5).ned hl5
      obtain ⟨v, ev, hv⟩ := three_v (a := .ref l1) (b := .ref l3) (c := .ref l4) v10 v13
      refine g_ixL (SqL.of (on3.fr _ _ (by simpa using nl5) upd_same)) ev ?_
      have fE := (fr2.trans (Fr.same s6)).trans on3.fr
      walk_at "fl.w"
      rcases hv with rfl | rfl | rfl
      · refine q _ _ (t.drop 1) fE hk3 (dq_of hdS (.lst (al2.ni hl1) (raw_new hl5 (raw_new hl4 (raw_new hl3 (raw_new hl2 (raw_new ht1 upd_same))))) ?_) on3.fr) (by simp; omega)
        rw [List.map_drop]
        exact (hX2.same s6).drop 1
      · refine q _ _ (t ++ [some (0, 3)]) fE hk3 (dq_of hdS (.lst ((al2.same s3).ni hl3) (raw_new hl5 (raw_new hl4 upd_same)) ?_) on3.fr) (by simp)
        rw [List.map_append]
        exact (hX2.same s6).app (.one (.tup ((al2.same s1).ni ht1) (raw_new hl5 (raw_new hl4 (raw_new hl3 (raw_new hl2 upd_same)))) (.cons (.int _) (.cons (.int _) .nil))))
      · exact q _ _ [] fE hk3 (dq_of hdS (.lst ((al2.same s4).ni hl4) (raw_new hl5 upd_same) .nil) on3.fr) (by simp)
    · walk_at "fl.w"
      exact z
  obtain ⟨rfl, rfl⟩ := hJ
  walk_at "fl.w"
  rename_i v1 H3 v10 v19 hk3 on3 D hD
  have f3 := fr2.trans on3.fr
  have fD : H D = none := free_of f3 hk3 hD
  have hDd : D ∉ [d] := by have := hk.ned fD; simpa using this
  have C0 : LsAt S d s ns H D (([] : Tab).map opD) (upd H3 D (.lst [])) := ⟨⟨[], upd_same, .nil⟩, fD, hk, frFresh f3 fD, hk3.newH hD⟩
  have haD : a ≠ D := fun e => by rw [e, fD] at ra; cases ra
  have nad' : a ∉ [d] := by simpa using nad
  refine forK_l (xs := xs) (fun i σ' G => ∃ u7 t', σ' = [some (.ref d), some (.ref a), some (.int n), some (.int kd), some vi, some (.int v1), some (.ref D), u7] ∧ t'.length = i ∧ LsAt S d s ns H D (t'.map opD) G) ⟨_, [], rfl, rfl, C0⟩ ?_ ?_ ?_
  · intro i σ' G _ ⟨_, _, _, _, C⟩
    exact SqL.of (C.fr _ _ nad' ra)
  · intro i x σ' G hx ⟨u7, t', e, hl, C⟩
    subst e
    have hi : i < t.length := by
      have := (List.getElem?_eq_some_iff.mp hx).1
      omega
    have hti : t[i]? = some t[i] := List.getElem?_eq_getElem hi
    obtain ⟨x', hx', dx⟩ := (dqa_of (List.mem_cons_of_mem _ hdS) (hX.new fD) C.fr).getD (i := i) (d := opD t[i]) (by rw [List.getElem?_map, hti]; rfl)
    cases hx.symm.trans hx'
    obtain ⟨ys, hy, hY⟩ := C.ex
    have ly := hY.len
    rw [List.length_map] at ly
    generalize t[i] = it at dx
    walk_at "fl.w"
    cases it with
    | none =>
      cases dx.nonE
      refine g_ite (fun _ => ?_) (fun z => absurd rfl z)
      walk_at "fl.w"
      exact ⟨_, t' ++ [none], rfl, by simp [hl], by rw [List.map_append]; exact C.put hy .non⟩
    | some p =>
      obtain ⟨pa, rfl, np, rp⟩ := prE dx
      refine g_ite (fun z => by cases z) (fun _ => ?_)
      walk_at "fl.w"
      rename_i tt htt
      have sT := Fl.Same.new (o := .tup [.int p.1, .int (p.2 + v1)]) htt
      have CT := C.on hdS hS (Fr.same sT) (C.dk.same sT)
      have alC := C.al hS
      have hyT := sT _ _ hy
      walk_at "fl.w"
      exact ⟨_, t' ++ [some (p.1, p.2 + v1)], rfl, by simp [hl], by rw [List.map_append]; exact CT.put hyT (.tup (alC.ni htt) upd_same (.cons (.int _) (.cons (.int _) .nil)))⟩
  · intro σ' G ⟨u7, t', e, hl, C⟩
    subst e
    obtain ⟨ys, hy, hY⟩ := C.ex
    walk_at "fl.w"
    exact q _ _ t' C.fr C.dk (.lst (hS.ni fD) hy hY.tail) (by omega)
end

section
variable {P : Program} {w : World} {K : PySem.W.Frag} {mg : Str → Option Value} {base : Heap}
local macro_rules | `(tactic| walk_at "fl.t") => `(tactic| (with_reducible refine g_chainW ?_))
local macro_rules | `(tactic| walk_at "fl.t") => `(tactic| (with_reducible refine g_callS ?_))
local macro_rules | `(tactic| walk_at "fl.t") => `(tactic| (with_reducible refine g_ifE ?_))
local macro_rules | `(tactic| walk_at "fl.w") => `(tactic| repeat walk_at "fl.t")
def fTo (mg : Str → Option Value) (ds : List PyData) (d : PyData) : Prop := ∃ g : Pg, ds = [insD (adr mg "Program") g.F] ∧ PgOk g ∧ d = allD (allM g.f g.m)
theorem ok_law_told (T : Txt K mg) (I : WoK K w mg) : Has P w K mg base 5 "_law_told" ps_law_told (spD (fTo mg)) := by
  have hX_make_tables := ok_make_tables (P := P) (w := w) (base := base) T I
  refine has_of T.d_law_told sc_law_told bd_law_told (fun vs H Q E h => ?_) (fun f cdv A outer s H vs Q E hr h => ?_)
  · obtain ⟨S, ds, d, _, hd, ⟨g, rfl, _⟩, _⟩ := h
    rw [hd.len]; rfl
  obtain ⟨S, ds, d, hS, hd, ⟨g, rfl, ok, rfl⟩, q⟩ := h
  obtain ⟨v, _, rfl, hv, hd⟩ := hd.consE
  cases hd.nilE
  refine ⟨_, (pss_one (ps_try_as (i := 1) rfl rfl sc_law_told.nd rfl rfl ⟨rfl, by decide, .inl T.mk_NoTable.g⟩ takes0
        (fun W pn xe tk _ => (pss_one (ps_ret (pe_hX hX_make_tables (hr.mono (by decide)) tk (pa_cons (pv 0) pa_nil)))))
        (fun a oe cls d pn hz hf => (pss_one (ps_ret (pe_tup (pa_cons (pe_xf T.mk_NoTable.r T.mk_NoTable.n hz hf (pv 1)) (pa_cons (pe_xf T.mk_NoTable.r T.mk_NoTable.m hz hf (pv 1)) pa_nil)))))))), ?_⟩
  walk_at "fl.w"
  refine ⟨S, v, g, rfl, hS, hv, ok, fun ts hts v' H' sm dv => ?_, fun e he dx H' hdx sm rdx => ?_⟩
  · rw [hts] at q
    walk_at "fl.w"
    exact q _ _ sm dv
  · rw [he] at q
    refine wAs_yes T.ms_NoTable (fun b hb => ?_)
    walk_at "fl.w"
    refine g_xf rfl rdx rfl ?_
    walk_at "fl.w"
    refine g_xf rfl rdx rfl ?_
    walk_at "fl.w"
    rename_i t ht
    exact q _ _ (sm.trans (Fl.Same.new ht)) (.tup ((hS.same sm).ni ht) upd_same (.cons (.int _) (.cons (.int _) .nil)))
def fNl (ds : List PyData) (d : PyData) : Prop := ∃ (ts us : List Tab), ds = [tabsD ts, tabsD us] ∧ ts.length < 900 ∧ (∀ t, t ∈ ts → t.length < 900) ∧ (∀ (j : Nat) (s : Tab), ts[j]? = some s → ∃ t, us[j]? = some t ∧ TabLe s t) ∧ d = .bool true
theorem ok_law_no_less (T : Txt K mg) : Has P w K mg base 1 "_law_no_less" ps_law_no_less (spD fNl) := by
  refine has_of T.d_law_no_less sc_law_no_less bd_law_no_less (fun vs H Q E h => ?_) (fun f cdv A outer s H vs Q E hr h => ?_)
  · obtain ⟨S, ds, d, _, hd, ⟨ts, us, rfl, _⟩, _⟩ := h
    rw [hd.len]; rfl
  obtain ⟨S, ds, d, hS, hd, ⟨ts, us, rfl, hz, hzt, hle, rfl⟩, q⟩ := h
  obtain ⟨v, _, rfl, hv, hd⟩ := hd.consE
  obtain ⟨u, _, rfl, hu, hd⟩ := hd.consE
  cases hd.nilE
  obtain ⟨a, xs, rfl, na, ra, hX⟩ := hv.lstE
  obtain ⟨b, ys, rfl, nb, rb, hY⟩ := hu.lstE
  have lx := hX.len
  rw [List.length_map] at lx
  refine ⟨_, (pss_cons (ps_for PassesOwn.never rfl (pi_range1 (by rfl) T.z_range (pa_cons (pe_callB (clLen (K := K) rfl) (by rfl) T.z_len (by decide +kernel) (pa_cons (pv 0) pa_nil)) pa_nil)) (pg_name (i := 2) sc_law_no_less.nd rfl (.inl rfl))
        (pss_one (ps_for PassesOwn.never rfl (pi_range1 (by rfl) T.z_range (pa_cons (pe_callB (clLen (K := K) rfl) (by rfl) T.z_len (by decide +kernel) (pa_cons (pe_ix (ixL (K := K) rfl) (pv 0) (pv 2) (fun _ _ => rfl)) pa_nil)) pa_nil)) (pg_name (i := 3) sc_law_no_less.nd rfl (.inl rfl))
        (pss_one (ps_if (pt_cmpR op_notN (pe_ix (ixL (K := K) rfl) (pe_ix (ixL (K := K) rfl) (pv 0) (pv 2) (fun _ _ => rfl)) (pv 3) (fun _ _ => rfl)) pe_non (nomark _))
        (pss_cons (ps_set (i := 4) sc_law_no_less.nd rfl (.inl rfl) (pe_ix (ixL (K := K) rfl) (pe_ix (ixL (K := K) rfl) (pv 1) (pv 2) (fun _ _ => rfl)) (pv 3) (fun _ _ => rfl)))
      (pss_one (ps_if (PW.pt (pw_or (pt_cmpR op_isN (pv 4) pe_non (nomark _)) (pw_or (pt_cmpR op_ne (pe_ix (ixT (K := K) rfl) (pv 4) pe_int (fun _ _ => rfl)) (pe_ix (ixT (K := K) rfl) (pe_ix (ixL (K := K) rfl) (pe_ix (ixL (K := K) rfl) (pv 0) (pv 2) (fun _ _ => rfl)) (pv 3) (fun _ _ => rfl)) pe_int (fun _ _ => rfl)) (nomark _)) (pw_or1 (pt_cmpR op_lt (pe_ix (ixT (K := K) rfl) (pv 4) pe_int (fun _ _ => rfl)) (pe_ix (ixT (K := K) rfl) (pe_ix (ixL (K := K) rfl) (pe_ix (ixL (K := K) rfl) (pv 0) (pv 2) (fun _ _ => rfl)) (pv 3) (fun _ _ => rfl)) pe_int (fun _ _ => rfl)) (nomark _))))))
        (pss_one (ps_ret pe_bl))
        pss_nil)))
        pss_nil)))))
      (pss_one (ps_ret pe_bl))), ?_⟩
  walk_at "fl.w"
  refine forK_r (fun i σ' G => ∃ u2 u3 u4, σ' = [some (.ref a), some (.ref b), u2, u3, u4] ∧ G = H) ⟨_, _, _, rfl, rfl⟩ ?_ ?_
  · intro i σ' G hi ⟨u2, u3, u4, e, e2⟩
    subst e e2
    have hti : ts[i]? = some ts[i] := List.getElem?_eq_getElem (by omega)
    obtain ⟨t2, hu2, hT⟩ := hle i _ hti
    have mz := hzt _ (List.mem_of_getElem? hti)
    obtain ⟨x, hx, dx⟩ := hX.getD (i := i) (d := tabD ts[i]) (by rw [List.getElem?_map, hti]; rfl)
    obtain ⟨y, hy, dy⟩ := hY.getD (i := i) (d := tabD t2) (by rw [List.getElem?_map, hu2]; rfl)
    have ax : atI xs (i : Int) = some x := atI_nat hx
    have ay : atI ys (i : Int) = some y := atI_nat hy
    generalize ts[i] = t1 at hti dx hT mz
    obtain ⟨p, ps, rfl, np, rp, hP⟩ := dx.lstE
    obtain ⟨r, rs, rfl, nr, rr, hR⟩ := dy.lstE
    have lp := hP.len
    have lr := hR.len
    rw [List.length_map] at lp lr
    have hlen := hT.1
    rw [show (0 : Int) + (i : Int) = (i : Int) by omega]
    walk_at "fl.w"
    refine forK_r (fun j σ2 G2 => ∃ u3 u4, σ2 = [some (.ref a), some (.ref b), some (.int i), u3, u4] ∧ G2 = G) ⟨_, _, rfl, rfl⟩ ?_ ?_
    · intro j σ2 G2 hj ⟨u3, u4, e, e2⟩
      subst e e2
      have h1 : t1[j]? = some t1[j] := List.getElem?_eq_getElem (by omega)
      have h2 : t2[j]? = some t2[j] := List.getElem?_eq_getElem (by omega)
      have hT1 : atT t1 (j : Int) = t1[j] := by unfold atT; rw [show ((j : Nat) : Int).toNat = j from rfl, h1]; rfl
      have hT2 : atT t2 (j : Int) = t2[j] := by unfold atT; rw [show ((j : Nat) : Int).toNat = j from rfl, h2]; rfl
      obtain ⟨z1, hz1, d1⟩ := hP.getD (i := j) (d := opD t1[j]) (by rw [List.getElem?_map, h1]; rfl)
      obtain ⟨z2, hz2, d2⟩ := hR.getD (i := j) (d := opD t2[j]) (by rw [List.getElem?_map, h2]; rfl)
      have az1 : atI ps (j : Int) = some z1 := atI_nat hz1
      have az2 : atI rs (j : Int) = some z2 := atI_nat hz2
      generalize t1[j] = i1 at hT1 d1
      generalize t2[j] = i2 at hT2 d2
      rw [show (0 : Int) + (j : Int) = (j : Int) by omega]
      walk_at "fl.w"
      cases i1 with
      | none =>
        cases d1.nonE
        refine g_iteN (fun z => absurd rfl z) (fun _ => ?_)
        walk_at "fl.w"
        exact ⟨_, _, rfl, rfl⟩
      | some p1 =>
        obtain ⟨p2, e2, q1, q2⟩ := hT.2 _ _ hT1
        rw [hT2] at e2
        subst e2
        obtain ⟨a1, rfl, n1, r1⟩ := prE d1
        obtain ⟨a2, rfl, n2, r2⟩ := prE d2
        refine g_iteN (fun _ => ?_) (fun z => by cases z)
        walk_at "fl.w"
        refine g_ite (fun z => by cases z) (fun _ => ?_)
        walk_at "fl.w"
        refine g_iteN (fun z => by exfalso; omega) (fun _ => ?_)
        walk_at "fl.w"
        refine g_ite (fun z => by exfalso; omega) (fun _ => ?_)
        walk_at "fl.w"
        exact ⟨_, _, rfl, rfl⟩
    · intro σ2 G2 ⟨u3, u4, e, e2⟩
      subst e e2
      walk_at "fl.w"
      exact ⟨_, _, _, rfl, rfl⟩
  · intro σ' G ⟨u2, u3, u4, e, e2⟩
    subst e e2
    walk_at "fl.w"
    exact q _ _ (Same.refl _) (.bl _)
end

section
variable {P : Program} {w : World} {K : PySem.W.Frag} {mg : Str → Option Value} {base : Heap}
local macro_rules | `(tactic| walk_at "fl.t") => `(tactic| (with_reducible refine g_chainW ?_))
local macro_rules | `(tactic| walk_at "fl.t") => `(tactic| (with_reducible refine g_callS ?_))
local macro_rules | `(tactic| walk_at "fl.t") => `(tactic| (with_reducible refine g_ifE ?_))
local macro_rules | `(tactic| walk_at "fl.t") => `(tactic| ((with_reducible apply g_slN); (focus walk_at "fl.lk"); intro _ _))
local macro_rules | `(tactic| walk_at "fl.w") => `(tactic| repeat walk_at "fl.t")
local macro_rules | `(tactic| walk_at "fl.q") => `(tactic| repeat ((fail_if_success (with_reducible refine g_if ?_)); walk_at "fl.t"))
theorem made_len {c : List In} {cs : List Co} {most : Int} {t : List (Option Pr)} (h : runT (lstF c cs most) (tab0 c.length) c.length = .ok t) : t.length = c.length + 1 := (made_run (made0 c cs most) c.length t (Nat.le_refl _) h).1.len
theorem mkR_len {fs : List (List In)} (hf : ∀ c, c ∈ fs → CodeOk c) : ∀ (k : Nat) (p : List Tab × List Co), k ≤ fs.length → mkR fs k = .ok p → ∀ t, t ∈ p.1 → t.length ≤ 800
  | 0, p, _, h, t, m => by
    unfold mkR at h
    cases h
    exact nomatch m
  | k + 1, p, hk, h, t, m => by
    unfold mkR at h
    cases hr : mkR fs k with
    | error e => rw [hr] at h; cases h
    | ok q =>
      have ih := mkR_len hf k q (by omega) hr
      rw [hr] at h
      simp only at h
      have hfk : fs[k]? = some fs[k] := List.getElem?_eq_getElem (by omega)
      rw [hfk] at h
      simp only at h
      have hc := hf _ (List.mem_of_getElem? hfk)
      generalize fs[k] = c at h hfk hc
      cases hm : runT (lstF c q.2 32) (tab0 c.length) c.length with
      | error i => rw [hm] at h; cases h
      | ok t' =>
        rw [hm] at h
        cases h
        rcases List.mem_append.mp m with m | m
        · exact ih t m
        · rw [List.mem_singleton.mp m, made_len hm]
          have := hc.z
          omega
theorem allM_len {fs : List (List In)} {mn : List In} {ts : List Tab} (hf : ∀ c, c ∈ fs → CodeOk c) (hm : CodeOk mn) (h : allM fs mn = .ok ts) : ts.length = fs.length + 1 ∧ ∀ t, t ∈ ts → t.length ≤ 800 := by
  unfold allM at h
  cases hr : mkR fs fs.length with
  | error e => rw [hr] at h; cases h
  | ok p =>
    rw [hr] at h
    simp only at h
    obtain ⟨l1, _⟩ := mkR_jud _ p (Nat.le_refl _) hr
    have ih := mkR_len hf _ p (Nat.le_refl _) hr
    cases hm' : runT (lstF mn p.2 0) (tab0 mn.length) mn.length with
    | error i => rw [hm'] at h; cases h
    | ok t =>
      rw [hm'] at h
      cases h
      refine ⟨by simp [l1], fun x m => ?_⟩
      rcases List.mem_append.mp m with m | m
      · exact ih x m
      · rw [List.mem_singleton.mp m, made_len hm']
        have := hm.z
        omega
theorem tf_tab (t : Tab) : ∀ d, d ∈ t.map opD → FlD d ∨ TfD d := fun d m => by
  obtain ⟨o, _, rfl⟩ := List.mem_map.mp m
  cases o with
  | none => exact .inl trivial
  | some p => exact .inr (tf_pr p)
theorem no_false {S : List Addr} {H : Hp} : ∀ (n : Nat) {zs : List V}, DqA S H zs (List.replicate n (.bool true)) → inV (.bl false) zs = false ∧ zs.all flatV = true
  | 0, _, h => by cases h; exact ⟨rfl, rfl⟩
  | n + 1, _, h => by
    rw [List.replicate_succ] at h
    obtain ⟨v, ws, rfl, hv, h2⟩ := h.consE
    cases hv.blE
    obtain ⟨a, b⟩ := no_false n h2
    constructor
    · unfold inV at a ⊢
      rw [List.any_cons, a]
      rfl
    · rw [List.all_cons, b]
      rfl
theorem rep_range {x : PyData} : ∀ n : Nat, (List.range n).filterMap (fun _ => some x) = List.replicate n x
  | 0 => rfl
  | n + 1 => by rw [List.range_succ, List.filterMap_append, rep_range n, List.replicate_succ']; rfl
def uT (c : List In) : Tab := (List.range (c.length + 1)).map fun (k : Nat) => some (0, 2 * (k : Int))
theorem uT_fm (c : List In) : (List.range (c.length + 1)).filterMap (fun (k : Nat) => some (Fl.prD (0, 2 * (k : Int)))) = (uT c).map opD := by
  unfold uT
  rw [List.map_map, ← List.filterMap_eq_map]
  rfl
theorem ok_law (T : Txt K mg) (I : WoK K w mg) {f : Addr} {fd : FuncData} (F : Fun K "law" "law" s_law f fd) : FnOk P w K mg base CX0 12 f fd ps_law (spLaw K) := by
  have h_law_deck := ok_law_deck (P := P) (w := w) (base := base) T
  have h_law_draw := ok_law_draw (P := P) (w := w) (base := base) T
  have h_law_tame_program := ok_law_tame_program (P := P) (w := w) (base := base) T
  have h_law_program := ok_law_program (P := P) (w := w) (base := base) T
  have h_law_made_tables := ok_law_made_tables (P := P) (w := w) (base := base) T
  have h_law_told := ok_law_told (P := P) (w := w) (base := base) T I
  have h_law_handed := ok_law_handed (P := P) (w := w) (base := base) T
  have h_law_same := ok_law_sameB (P := P) (w := w) (base := base) T
  have h_law_same_list := ok_law_same_listB (P := P) (w := w) (base := base) T
  have h_judge_tables := ok_judge_tables (P := P) (w := w) (base := base) T I
  have h_law_bent_table := ok_law_bent_table (P := P) (w := w) (base := base) T
  have h_law_no_less := ok_law_no_less (P := P) (w := w) (base := base) T
  refine fnok_of F sc_law (fun vs H Q E h => ?_) (fun f cdv A outer s H vs Q E hr h => ?_)
  · obtain ⟨a, ns, rfl, _⟩ := h
    rfl
  obtain ⟨a, ns, rfl, hS, hlen, q⟩ := h
  refine ⟨_, (pss_cons (ps_set (i := 1) sc_law.nd rfl (.inl rfl) (pe_h h_law_deck (hr.mono (by decide)) (pa_cons (pv 0) pa_nil)))
      (pss_cons (ps_set (i := 2) sc_law.nd rfl (.inl rfl) (pe_h h_law_tame_program (hr.mono (by decide)) (pa_cons (pv 1) pa_nil)))
      (pss_cons (ps_if (pt_cmpR op_eq (pe_h h_law_draw (hr.mono (by decide)) (pa_cons (pv 1) (pa_cons pe_int pa_nil))) pe_int (nomark _))
        (pss_one (ps_set (i := 2) sc_law.nd rfl (.inl rfl) (pe_h h_law_program (hr.mono (by decide)) (pa_cons (pv 1) pa_nil))))
        pss_nil)
      (pss_cons (ps_set (i := 3) sc_law.nd rfl (.inr rfl) (pe_h h_law_made_tables (hr.mono (by decide)) (pa_cons (pv 2) pa_nil)))
      (pss_cons (ps_set (i := 4) sc_law.nd rfl (.inr rfl) (pe_h h_law_told (hr.mono (by decide)) (pa_cons (pe_h h_law_handed (hr.mono (by decide)) (pa_cons (pv 2) pa_nil)) pa_nil)))
      (pss_cons (ps_if (pt_val (pe_callB (clIsi (K := K) rfl) (by rfl) T.z_isinstance (by decide +kernel) (pa_cons (pv 3) (pa_cons (pe_bltn (v := .ty "tuple") (by rfl) T.z_tuple (by decide +kernel) rfl) pa_nil))))
        (pss_one (ps_if (pt_not (pt_val (pe_h h_law_same (hr.mono (by decide)) (pa_cons (pv 4) (pa_cons (pv 3) pa_nil)))))
        (pss_one (ps_ret pe_bl))
        pss_nil))
        (pss_one (ps_if (PW.pt (pw_or (pt_not (pt_val (pe_callB (clIsi (K := K) rfl) (by rfl) T.z_isinstance (by decide +kernel) (pa_cons (pv 4) (pa_cons (pe_bltn (v := .ty "list") (by rfl) T.z_list (by decide +kernel) rfl) pa_nil))))) (pw_or1 (pt_cmpR op_ne (pe_callB (clLen (K := K) rfl) (by rfl) T.z_len (by decide +kernel) (pa_cons (pv 4) pa_nil)) (pe_callB (clLen (K := K) rfl) (by rfl) T.z_len (by decide +kernel) (pa_cons (pv 3) pa_nil)) (nomark _)))))
        (pss_one (ps_ret pe_bl))
        (pss_one (ps_if (pt_cmpR (opIn (K := K) rfl) pe_bl (pe_lc (own := [("k", 9)]) rfl sc_law.nd (pi_range1 (by rfl) T.z_range (pa_cons (pe_callB (clLen (K := K) rfl) (by rfl) T.z_len (by decide +kernel) (pa_cons (pv 3) pa_nil)) pa_nil)) (blkOk_by (by kernel_rfl)) (fun _ _ _ _ _ => (pg_name (i := 9) sc_law.nd rfl (.inl rfl))) (fun _ _ _ _ _ => pts_nil) (fun _ _ _ _ _ => (pe_h h_law_same_list (hr.mono (by decide)) (pa_cons (pe_ix (ixL (K := K) rfl) (pv 4) (pv 9) (fun _ _ => rfl)) (pa_cons (pe_ix (ixL (K := K) rfl) (pv 3) (pv 9) (fun _ _ => rfl)) pa_nil))))) (by rfl))
        (pss_one (ps_ret pe_bl))
        (pss_one (ps_if (pt_cmpR op_isN (pe_h h_judge_tables (hr.mono (by decide)) (pa_cons (pe_h h_law_handed (hr.mono (by decide)) (pa_cons (pv 2) pa_nil)) (pa_cons (pv 4) pa_nil))) pe_non (nomark _))
        (pss_one (ps_ret pe_bl))
        pss_nil)))))))
      (pss_cons (ps_set (i := 5) sc_law.nd rfl (.inl rfl) (pv 3))
      (pss_cons (ps_if (pt_val (pe_callB (clIsi (K := K) rfl) (by rfl) T.z_isinstance (by decide +kernel) (pa_cons (pv 3) (pa_cons (pe_bltn (v := .ty "tuple") (by rfl) T.z_tuple (by decide +kernel) rfl) pa_nil))))
        (pss_one (ps_setLc (i := 5) (own := [("code", 8)]) rfl sc_law.nd rfl rfl (sw_true rfl rfl rfl (by decide +kernel)) (piL (K := K) rfl (pe_op op_cat (pe_ix (ixL (K := K) rfl) (pv 2) pe_int (fun _ _ => rfl)) (pe_lst (pa_cons (pe_ix (ixL (K := K) rfl) (pv 2) pe_int (fun _ _ => rfl)) pa_nil)))) (blkOk_by (by kernel_rfl)) (fun _ _ _ _ _ => (pg_name (i := 8) sc_law.nd rfl (.inl rfl))) (fun _ _ _ _ _ => pts_nil) (fun _ _ _ _ _ => (pe_lc (own := [("k", 9)]) rfl sc_law.nd (pi_range1 (by rfl) T.z_range (pa_cons (pe_op op_add (pe_callB (clLen (K := K) rfl) (by rfl) T.z_len (by decide +kernel) (pa_cons (pv 8) pa_nil)) pe_int) pa_nil)) (blkOk_by (by kernel_rfl)) (fun _ _ _ _ _ => (pg_name (i := 9) sc_law.nd rfl (.inl rfl))) (fun _ _ _ _ _ => pts_nil) (fun _ _ _ _ _ => (pe_tup (pa_cons pe_int (pa_cons (pe_op op_mul pe_int (pv 9)) pa_nil))))))))
        pss_nil)
      (pss_cons (ps_for PassesOwn.never rfl (pi_range1 (by rfl) T.z_range (pa_cons pe_int pa_nil)) (pg_name (i := 6) sc_law.nd rfl (.inl rfl))
        (pss_cons (ps_set (i := 7) sc_law.nd rfl (.inl rfl) (pe_h h_law_draw (hr.mono (by decide)) (pa_cons (pv 1) (pa_cons (pe_callB (clLen (K := K) rfl) (by rfl) T.z_len (by decide +kernel) (pa_cons (pv 5) pa_nil)) pa_nil))))
      (pss_cons (ps_set (i := 5) sc_law.nd rfl (.inl rfl) (pe_op op_cat (pe_op op_cat (pe_slice (slL' (K := K) rfl) (pv 5) po_none (po_some (pv 7))) (pe_lst (pa_cons (pe_h h_law_bent_table (hr.mono (by decide)) (pa_cons (pv 1) (pa_cons (pe_ix (ixL (K := K) rfl) (pv 5) (pv 7) (fun _ _ => rfl)) pa_nil))) pa_nil))) (pe_slice (slL' (K := K) rfl) (pv 5) (po_some (pe_op op_add (pv 7) pe_int)) po_none)))
      (pss_one (ps_if (pt_cmpR op_notN (pe_h h_judge_tables (hr.mono (by decide)) (pa_cons (pe_h h_law_handed (hr.mono (by decide)) (pa_cons (pv 2) pa_nil)) (pa_cons (pv 5) pa_nil))) pe_non (nomark _))
        (pss_one (ps_if (PW.pt (pw_or (pt_val (pe_callB (clIsi (K := K) rfl) (by rfl) T.z_isinstance (by decide +kernel) (pa_cons (pv 3) (pa_cons (pe_bltn (v := .ty "tuple") (by rfl) T.z_tuple (by decide +kernel) rfl) pa_nil)))) (pw_or1 (pt_not (pt_val (pe_h h_law_no_less (hr.mono (by decide)) (pa_cons (pv 3) (pa_cons (pv 5) pa_nil))))))))
        (pss_one (ps_ret pe_bl))
        pss_nil))
        pss_nil)))))
      (pss_one (ps_ret pe_bl))))))))))), ?_⟩
  walk_at "fl.w"
  rename_i d sa H1 sm1 hk1
  have dd : d ∈ [d] := by simp
  refine ⟨[d], d, sa, ns, rfl, dd, .cons hk1.hd .nil, hk1, fun t H2 g f2 hk2 dg ok gl => ?_⟩
  walk_at "fl.q"
  refine g_J (fun σ' G => ∃ t g, σ' = [some (.ref a), some (.ref d), some (.ref t), none, none, none, none, none, none, none] ∧ PgOk g ∧ g.f.length ≤ 3 ∧ Dq [d] G (.ref t) (pgD g) ∧ Dk d sa ns G) (fun N hN => ?_) (fun σ' G hJ => ?_)
  · walk_at "fl.w"
    rename_i v H3 _ _ hk3 on3
    have dg3 := dq_of dd dg on3.fr
    refine g_ite (fun _ => ?_) (fun _ => ?_)
    · walk_at "fl.w"
      refine ⟨[d], d, sa, ns, rfl, dd, .cons hk3.hd .nil, hk3, fun t H4 g f4 hk4 dg ok l3 => ?_⟩
      walk_at "fl.w"
      exact hN _ _ ⟨t, g, rfl, ok, l3, dg, hk4⟩
    · walk_at "fl.w"
      exact hN _ _ ⟨t, g, rfl, ok, gl, dg3, hk3⟩
  clear hk2 dg ok gl f2 hk1 sm1
  obtain ⟨t, g, rfl, ok, gl, dg, hk⟩ := hJ
  have al := Al.cons (H := G) hk.hd .nil
  walk_at "fl.w"
  refine spD_app [d] [pgD g] (allD (allM g.f g.m)) al (.cons dg .nil) ⟨g, rfl, ok, rfl⟩ (fun vd H3 sm3 dv => ?_)
  walk_at "fl.w"
  refine spD_app [d] [pgD g] (insD (adr mg "Program") g.F) (al.same sm3) (.cons (dg.same sm3) .nil) ⟨g, rfl, ok, rfl⟩ (fun vp H4 sm4 dp => ?_)
  walk_at "fl.w"
  refine spD_app [d] [insD (adr mg "Program") g.F] (allD (allM g.f g.m)) ((al.same sm3).same sm4) (.cons dp .nil) ⟨g, rfl, ok, rfl⟩ (fun vt H5 sm5 dt => ?_)
  have al5 := ((al.same sm3).same sm4).same sm5
  have dv5 := (dv.same sm4).same sm5
  have dg5 := ((dg.same sm3).same sm4).same sm5
  have hk5 := ((hk.same sm3).same sm4).same sm5
  clear al dv dp dg hk sm3 sm4 sm5
  walk_at "fl.q"
  refine g_J (fun σ' G => σ' = [some (.ref a), some (.ref d), some (.ref t), some vd, some vt, none, none, none, none, none] ∧ Same H5 G) (fun N hN => ?_) (fun σ' G hJ => ?_)
  · have z : ∀ G, Same H5 G → N [some (.ref a), some (.ref d), some (.ref t), some vd, some vt, none, none, none, none, none] G := fun G s => hN _ _ ⟨rfl, s⟩
    cases hM : allM g.f g.m with
    | error e =>
      rw [hM] at dv5 dt
      have dv0 := dv5
      obtain ⟨da, rfl, nda, rda⟩ := prE dv5
      walk_at "fl.w"
      refine .inr ⟨[d], [d], Fl.prD e, _, _, rfl, tf_pr e, dt, dv0, ?_⟩
      walk_at "fl.w"
      exact z _ (Same.refl _)
    | ok ts =>
      obtain ⟨tl, tz⟩ := allM_len ok.f ok.m hM
      obtain ⟨co, hco⟩ := made_all hM
      rw [hM] at dv5 dt
      obtain ⟨da, xs, rfl, nda, rda, hX⟩ := dv5.lstE
      obtain ⟨ta, ys, rfl, nta, rta, hY⟩ := dt.lstE
      have lx := hX.len
      have ly := hY.len
      rw [List.length_map] at lx ly
      walk_at "fl.w"
      refine g_iteN (fun z => by exfalso; omega) (fun _ => ?_)
      walk_at "fl.w"
      refine lcR (S := [d]) (fun _ => some (.bool true)) al5 (by omega) ?_ ?_
      · intro D i G hD hi sm al R N' hR hN'
        have hi2 : i < ts.length := by omega
        have hti : ts[i]? = some ts[i] := List.getElem?_eq_getElem hi2
        obtain ⟨x, hx, dx⟩ := (hX.same sm).getD (i := i) (d := tabD ts[i]) (by rw [List.getElem?_map, hti]; rfl)
        obtain ⟨y, hy, dy⟩ := (hY.same sm).getD (i := i) (d := tabD ts[i]) (by rw [List.getElem?_map, hti]; rfl)
        have ax : atI xs (i : Int) = some x := atI_nat hx
        have ay : atI ys (i : Int) = some y := atI_nat hy
        have rda' := sm _ _ rda
        have rta' := sm _ _ rta
        have tz' := tz _ (List.mem_of_getElem? hti)
        refine g_name ⟨rfl, ?_⟩
        rw [show (0 : Int) + (i : Int) = (i : Int) by omega]
        walk_at "fl.w"
        refine ⟨[d], [d], (ts[i]).map opD, _, _, rfl, by rw [List.length_map]; omega, tf_tab _, dy, dx, ?_⟩
        exact hR _ _ _ rfl (Same.refl _) (.bl _)
      · intro D G sm fD hD
        rw [rep_range] at hD
        obtain ⟨_, zs, e, nz, rz, hZ⟩ := hD.lstE
        cases e
        obtain ⟨n1, n2⟩ := no_false _ hZ
        have rta' := sm _ _ rta
        walk_at "fl.w"
        refine g_inL (SqL.of rz) rfl n2 ?_
        rw [n1]
        walk_at "fl.w"
        refine spD_app [d] [pgD g] (insD (adr mg "Program") g.F) (al5.same sm) (.cons (dg5.same sm) .nil) ⟨g, rfl, ok, rfl⟩ (fun vp G2 sm2 dp => ?_)
        walk_at "fl.w"
        refine spD_app [d] [insD (adr mg "Program") g.F, tabsD ts] (ocD (allJ g.f g.m ts)) ((al5.same sm).same sm2) (.cons dp (.cons ((dt.same sm).same sm2) .nil)) ⟨g, ts, rfl, ok, by omega, fun t m => by have := tz t m; omega, rfl⟩ (fun vj G3 sm3 dj => ?_)
        rw [hco] at dj
        obtain ⟨ja, rfl, _, _⟩ := coE dj
        walk_at "fl.w"
        refine g_ite (fun z => by cases z) (fun _ => ?_)
        walk_at "fl.w"
        exact z _ ((sm.trans sm2).trans sm3)
  obtain ⟨rfl, sm⟩ := hJ
  have al6 := al5.same sm
  have dv6 := dv5.same sm
  have dg6 := dg5.same sm
  have hk6 := hk5.same sm
  clear al5 dv5 dg5 hk5 sm dt
  walk_at "fl.q"
  refine g_J (fun σ' G => ∃ p us, σ' = [some (.ref a), some (.ref d), some (.ref t), some vd, some vt, some (.ref p), none, none, none, none] ∧ Dq [d] G (.ref p) (tabsD us) ∧ us.length = g.f.length + 1 ∧ (∀ t, t ∈ us → t.length ≤ 800) ∧ Dk d sa ns G ∧ Dq [d] G (.ref t) (pgD g) ∧ Dq [d] G vd (allD (allM g.f g.m))) (fun N hN => ?_) (fun σ' G' hJ => ?_)
  · cases hM : allM g.f g.m with
    | ok ts =>
      obtain ⟨tl, tz⟩ := allM_len ok.f ok.m hM
      have dv7 := dv6
      rw [hM] at dv7
      have dvt : Dq [d] G vd (tabsD ts) := dv7
      obtain ⟨da, xs, rfl, nda, rda, hX⟩ := dv7.lstE
      walk_at "fl.w"
      exact hN _ _ ⟨_, ts, rfl, dvt, tl, tz, hk6, dg6, dv6⟩
    | error e =>
      have dv7 := dv6
      rw [hM] at dv7
      obtain ⟨da, rfl, nda, rda⟩ := prE dv7
      have dg7 := dg6
      obtain ⟨_, zs, e', nt, rt, hP⟩ := dg7.lstE
      cases e'
      obtain ⟨v1, _, rfl, h1, hP⟩ := hP.consE
      obtain ⟨v2, _, rfl, h2, hP⟩ := hP.consE
      obtain ⟨v3, _, rfl, h3, hP⟩ := hP.consE
      obtain ⟨v4, _, rfl, h4, hP⟩ := hP.consE
      cases hP.nilE
      obtain ⟨b, ys, rfl, nb, rb, hY⟩ := h2.lstE
      have ly := hY.len
      rw [List.length_map] at ly
      walk_at "fl.w"
      rename_i l1 hl1 l2 hl2
      have s1 := Fl.Same.new (o := .lst [v1]) hl1
      have s2 := s1.trans (Fl.Same.new (o := .lst (ys ++ [v1])) hl2)
      have al8 := al6.same s2
      have dL : Dq [d] (upd (upd G l1 (.lst [v1])) l2 (.lst (ys ++ [v1]))) (.ref l2) (.list ((g.f ++ [g.m]).map codeD)) := by
        refine .lst ((al6.same s1).ni hl2) upd_same ?_
        rw [List.map_append]
        exact (hY.same s2).app (.one (h1.same s2))
      have hk8 := hk6.same s2
      refine lcL (S := [d]) (fun i => ((g.f ++ [g.m])[i]?).map fun c => tabD (uT c)) al8 dL (by simp; omega) ?_ ?_
      · intro D i x e2 H2 hD he sm al hxe R N' hR hN'
        obtain ⟨c, hc1, rfl⟩ := at_map he
        have hcz : c.length < 800 := by
          rcases List.mem_append.mp (List.mem_of_getElem? hc1) with m | m
          · exact (ok.f c m).z
          · rw [List.mem_singleton.mp m]; exact ok.m.z
        obtain ⟨tc, zc, rfl, ntc, rtc, hZc⟩ := hxe.lstE
        have lzc := hZc.len
        rw [List.length_map] at lzc
        refine g_name ⟨rfl, ?_⟩
        walk_at "fl.w"
        refine lcR (S := D :: [d]) (fun (k : Nat) => some (Fl.prD (0, 2 * (k : Int)))) al (by omega) ?_ ?_
        · intro D2 k H3 hD2 hk sm3 al3 R2 N2 hR2 hN2
          refine g_name ⟨rfl, ?_⟩
          rw [show (0 : Int) + (k : Int) = (k : Int) by omega]
          walk_at "fl.w"
          rename_i tt htt
          exact hR2 _ _ _ rfl (Fl.Same.new htt) (.tup (al3.ni htt) upd_same (.cons (.int _) (.cons (.int _) .nil)))
        · intro D2 H3 sm3 fD2 hD2
          rw [show ((zc.length : Int) + 1).toNat = c.length + 1 by omega, uT_fm] at hD2
          exact hR _ _ _ (by rw [hc1]; rfl) sm3 hD2
      · intro D H2 sm fD hD
        rw [fm_ltA (by rw [List.length_map])] at hD
        walk_at "fl.w"
        refine hN _ _ ⟨D, (g.f ++ [g.m]).map uT, rfl, ?_, by simp, fun t m => ?_, hk8.same sm, (dg6.same s2).same sm, (dv6.same s2).same sm⟩
        · unfold tabsD
          rw [List.map_map]
          exact hD
        · obtain ⟨c, mc, rfl⟩ := List.mem_map.mp m
          unfold uT
          rw [List.length_map, List.length_range]
          rcases List.mem_append.mp mc with m | m
          · exact (ok.f c m).z
          · rw [List.mem_singleton.mp m]; exact ok.m.z
  clear al6 dv6 dg6 hk6
  obtain ⟨p0, us0, rfl, dT0, ul0, uz0, hk0, dg0, dv0⟩ := hJ
  walk_at "fl.w"
  refine forK_r (fun i σ' G => ∃ p us u6 u7 u8 u9, σ' = [some (.ref a), some (.ref d), some (.ref t), some vd, some vt, some (.ref p), u6, u7, u8, u9] ∧ Dq [d] G (.ref p) (tabsD us) ∧ us.length = g.f.length + 1 ∧ (∀ t, t ∈ us → t.length ≤ 800 + i) ∧ Dk d sa ns G ∧ Dq [d] G (.ref t) (pgD g) ∧ Dq [d] G vd (allD (allM g.f g.m))) ⟨p0, us0, _, _, _, _, rfl, dT0, ul0, uz0, hk0, dg0, dv0⟩ ?_ ?_
  · intro i σ' G hi ⟨p, us, u6, u7, u8, u9, e, dT, ul, uz, hk, dg, dv⟩
    subst e
    have hi4 : i < 4 := hi
    obtain ⟨_, xs, e, np, rp, hX⟩ := dT.lstE
    cases e
    have lx := hX.len
    rw [List.length_map] at lx
    have al := Al.cons (H := G) hk.hd .nil
    have pd : p ≠ d := by simpa using np
    walk_at "fl.w"
    rename_i at' G1 at0' at1' hk1 on1
    obtain ⟨n, rfl⟩ : ∃ n : Nat, at' = (n : Int) := ⟨at'.toNat, by omega⟩
    have hn : n < us.length := by omega
    have rp1 := on1.fr _ _ np rp
    have hX1 := dqa_of dd hX on1.fr
    have hun : us[n]? = some us[n] := List.getElem?_eq_getElem hn
    obtain ⟨vi, hvi, di⟩ := hX1.getD (i := n) (d := tabD us[n]) (by rw [List.getElem?_map, hun]; rfl)
    have avi : atI xs (n : Int) = some vi := atI_nat hvi
    have hzn := uz _ (List.mem_of_getElem? hun)
    generalize us[n] = t0 at hun di hzn
    walk_at "fl.w"
    rename_i l1 hl1
    have s1 := Fl.Same.new (o := .lst (xs.take n)) hl1
    have hk2 := hk1.same s1
    refine ⟨[d], d, sa, ns, t0, vi, rfl, dd, .cons hk2.hd .nil, hk2, di.same s1, by omega, fun v H3 t' f3 hk3 dt' lt' => ?_⟩
    have nl1 : l1 ∉ [d] := by have := hk1.ned hl1; simpa using this
    have rl1 := f3 _ _ nl1 (show (upd G1 l1 (.lst (xs.take n))) l1 = some (.lst (xs.take n)) from upd_same)
    have rp3 := f3 _ _ np (s1 _ _ rp1)
    have hX3 := dqa_of dd (hX1.same s1) f3
    have dg3 := dq_of dd ((dq_of dd dg on1.fr).same s1) f3
    have dv3 := dq_of dd ((dq_of dd dv on1.fr).same s1) f3
    have al3 : Al [d] H3 := .cons hk3.hd .nil
    walk_at "fl.q"
    rename_i l2 hl2 l3 hl3 l4 hl4 l5 hl5
    have s2 := Fl.Same.new (o := .lst [v]) hl2
    have s3 := s2.trans (Fl.Same.new (o := .lst (xs.take n ++ [v])) hl3)
    have s4 := s3.trans (Fl.Same.new (o := .lst (xs.drop (n + 1))) hl4)
    have s5 := s4.trans (Fl.Same.new (o := .lst ((xs.take n ++ [v]) ++ xs.drop (n + 1))) hl5)
    obtain ⟨us', hus⟩ : ∃ us' : List Tab, us' = us.take n ++ [t'] ++ us.drop (n + 1) := ⟨_, rfl⟩
    have dT5 : Dq [d] (upd (upd (upd (upd H3 l2 (.lst [v])) l3 (.lst (xs.take n ++ [v]))) l4 (.lst (xs.drop (n + 1)))) l5 (.lst ((xs.take n ++ [v]) ++ xs.drop (n + 1)))) (.ref l5) (tabsD us') := by
      refine .lst ((al3.same s4).ni hl5) upd_same ?_
      rw [hus, List.map_append, List.map_append, List.map_take, List.map_drop]
      exact (((hX3.same s5).take n).app (.one (dt'.same s5))).app ((hX3.same s5).drop (n + 1))
    have ul' : us'.length = g.f.length + 1 := by rw [hus]; simp; omega
    have uz' : ∀ t, t ∈ us' → t.length ≤ 800 + (i + 1) := fun x m => by
      rw [hus] at m
      rcases List.mem_append.mp m with m | m
      · rcases List.mem_append.mp m with m | m
        · have := uz x (List.mem_of_mem_take m)
          omega
        · rw [List.mem_singleton.mp m]
          omega
      · have := uz x (List.mem_of_mem_drop m)
        omega
    have hk5 := hk3.same s5
    have dg5 := dg3.same s5
    have dv5 := dv3.same s5
    have al5 := al3.same s5
    generalize upd (upd (upd (upd H3 l2 (.lst [v])) l3 (.lst (xs.take n ++ [v]))) l4 (.lst (xs.drop (n + 1)))) l5 (.lst ((xs.take n ++ [v]) ++ xs.drop (n + 1))) = G5 at dT5 hk5 dg5 dv5 al5
    clear s1 s2 s3 s4 s5 hl5 hl4 hl3 hl2 rl1 rp3 hX3 dg3 dv3 al3 hX1 rp1 on1 hus di avi hvi hun dg dv dT hX rp
    walk_at "fl.w"
    refine spD_app [d] [pgD g] (insD (adr mg "Program") g.F) al5 (.cons dg5 .nil) ⟨g, rfl, ok, rfl⟩ (fun vp G6 sm6 dp => ?_)
    walk_at "fl.w"
    refine spD_app [d] [insD (adr mg "Program") g.F, tabsD us'] (ocD (allJ g.f g.m us')) (al5.same sm6) (.cons dp (.cons (dT5.same sm6) .nil)) ⟨g, us', rfl, ok, by omega, fun t m => by have := uz' t m; omega, rfl⟩ (fun vj G7 sm7 dj => ?_)
    have sm := sm6.trans sm7
    have dT7 := dT5.same sm
    have hk7 := hk5.same sm
    have dg7 := dg5.same sm
    have dv7 := dv5.same sm
    have al7 := al5.same sm
    cases hj : allJ g.f g.m us' with
    | none =>
      rw [hj] at dj
      cases dj.nonE
      walk_at "fl.w"
      refine g_iteN (fun z => absurd rfl z) (fun _ => ?_)
      walk_at "fl.w"
      exact ⟨_, us', _, _, _, _, rfl, dT7, ul', uz', hk7, dg7, dv7⟩
    | some co =>
      rw [hj] at dj
      obtain ⟨ja, rfl, _, _⟩ := coE dj
      obtain ⟨ts, hM, tl, tle⟩ := all_below hj
      obtain ⟨_, tz⟩ := allM_len ok.f ok.m hM
      have dv8 := dv7
      rw [hM] at dv8
      have dv9 : Dq [d] G7 vd (tabsD ts) := dv8
      obtain ⟨da, zs, rfl, nda, rda, hZ⟩ := dv8.lstE
      walk_at "fl.w"
      refine g_iteN (fun _ => ?_) (fun z => by cases z)
      walk_at "fl.w"
      refine spD_app [d] [tabsD ts, tabsD us'] (.bool true) al7 (.cons dv9 (.cons dT7 .nil)) ⟨ts, us', rfl, by omega, fun t m => by have := tz t m; omega, tle, rfl⟩ (fun vb G8 sm8 db => ?_)
      cases db.blE
      walk_at "fl.w"
      exact ⟨_, us', _, _, _, _, rfl, dT7.same sm8, ul', uz', hk7.same sm8, dg7.same sm8, dv7.same sm8⟩
  · intro σ' G ⟨p, us, u6, u7, u8, u9, e, _⟩
    subst e
    walk_at "fl.w"
    exact q _
end

section
variable {P : Program} {w : World} {K : PySem.W.Frag} {mg : Str → Option Value} {base : Heap}
end
abbrev spLaw (K : PySem.W.Frag) : Sp := Fl.spLaw K
theorem all_mk {l : PySem.W.OpenLaw} {w : World} {K : PySem.W.Frag} {h : Heap} {mg : Str → Option Value} {fa : Addr} (X : K.In h) (G : h.Ns mainGlobals mg) (hfa : mg "law" = some (.ref fa))
    {od0 an0 : Option Addr} {sl0 : Array (Option Value)} {oc0 kV0 dc0 pm0 cd0 ct0 : Value} {f0 : Addr}
    (a0 : PySem.W.nsIn K mainGlobals "tuples_of" = some (some (.ref f0))) (l0 : K.lookup f0 = some ⟨oc0, od0, .func (PySem.W.fnOf "tuples_of" "tuples_of" (defArgs s_tuples_of) (defBody s_tuples_of) (defScope s_tuples_of) .none kV0 dc0 pm0 an0 cd0 ct0), sl0⟩) (c0 : PySem.W.codeIn K cd0 "tuples_of" = true) (k0 : PySem.W.keepIn K (.ref f0) = true)
    {od1 an1 : Option Addr} {sl1 : Array (Option Value)} {oc1 kV1 dc1 pm1 cd1 ct1 : Value} {f1 : Addr}
    (a1 : PySem.W.nsIn K mainGlobals "kept" = some (some (.ref f1))) (l1 : K.lookup f1 = some ⟨oc1, od1, .func (PySem.W.fnOf "kept" "kept" (defArgs s_kept) (defBody s_kept) (defScope s_kept) .none kV1 dc1 pm1 an1 cd1 ct1), sl1⟩) (c1 : PySem.W.codeIn K cd1 "kept" = true) (k1 : PySem.W.keepIn K (.ref f1) = true)
    {od2 an2 : Option Addr} {sl2 : Array (Option Value)} {oc2 kV2 dc2 pm2 cd2 ct2 : Value} {f2 : Addr}
    (a2 : PySem.W.nsIn K mainGlobals "kept_code" = some (some (.ref f2))) (l2 : K.lookup f2 = some ⟨oc2, od2, .func (PySem.W.fnOf "kept_code" "kept_code" (defArgs s_kept_code) (defBody s_kept_code) (defScope s_kept_code) .none kV2 dc2 pm2 an2 cd2 ct2), sl2⟩) (c2 : PySem.W.codeIn K cd2 "kept_code" = true) (k2 : PySem.W.keepIn K (.ref f2) = true)
    {od3 an3 : Option Addr} {sl3 : Array (Option Value)} {oc3 kV3 dc3 pm3 cd3 ct3 : Value} {f3 : Addr}
    (a3 : PySem.W.nsIn K mainGlobals "judge_table" = some (some (.ref f3))) (l3 : K.lookup f3 = some ⟨oc3, od3, .func (PySem.W.fnOf "judge_table" "judge_table" (defArgs s_judge_table) (defBody s_judge_table) (defScope s_judge_table) .none kV3 dc3 pm3 an3 cd3 ct3), sl3⟩) (c3 : PySem.W.codeIn K cd3 "judge_table" = true) (k3 : PySem.W.keepIn K (.ref f3) = true)
    {od4 an4 : Option Addr} {sl4 : Array (Option Value)} {oc4 kV4 dc4 pm4 cd4 ct4 : Value} {f4 : Addr}
    (a4 : PySem.W.nsIn K mainGlobals "judge_tables" = some (some (.ref f4))) (l4 : K.lookup f4 = some ⟨oc4, od4, .func (PySem.W.fnOf "judge_tables" "judge_tables" (defArgs s_judge_tables) (defBody s_judge_tables) (defScope s_judge_tables) .none kV4 dc4 pm4 an4 cd4 ct4), sl4⟩) (c4 : PySem.W.codeIn K cd4 "judge_tables" = true) (k4 : PySem.W.keepIn K (.ref f4) = true)
    {od5 an5 : Option Addr} {sl5 : Array (Option Value)} {oc5 kV5 dc5 pm5 cd5 ct5 : Value} {f5 : Addr}
    (a5 : PySem.W.nsIn K mainGlobals "make_tables" = some (some (.ref f5))) (l5 : K.lookup f5 = some ⟨oc5, od5, .func (PySem.W.fnOf "make_tables" "make_tables" (defArgs s_make_tables) (defBody s_make_tables) (defScope s_make_tables) .none kV5 dc5 pm5 an5 cd5 ct5), sl5⟩) (c5 : PySem.W.codeIn K cd5 "make_tables" = true) (k5 : PySem.W.keepIn K (.ref f5) = true)
    {od6 an6 : Option Addr} {sl6 : Array (Option Value)} {oc6 kV6 dc6 pm6 cd6 ct6 : Value} {f6 : Addr}
    (a6 : PySem.W.nsIn K mainGlobals "begins_and_ends" = some (some (.ref f6))) (l6 : K.lookup f6 = some ⟨oc6, od6, .func (PySem.W.fnOf "begins_and_ends" "begins_and_ends" (defArgs s_begins_and_ends) (defBody s_begins_and_ends) (defScope s_begins_and_ends) .none kV6 dc6 pm6 an6 cd6 ct6), sl6⟩) (c6 : PySem.W.codeIn K cd6 "begins_and_ends" = true) (k6 : PySem.W.keepIn K (.ref f6) = true)
    {od7 an7 : Option Addr} {sl7 : Array (Option Value)} {oc7 kV7 dc7 pm7 cd7 ct7 : Value} {f7 : Addr}
    (a7 : PySem.W.nsIn K mainGlobals "way_on" = some (some (.ref f7))) (l7 : K.lookup f7 = some ⟨oc7, od7, .func (PySem.W.fnOf "way_on" "way_on" (defArgs s_way_on) (defBody s_way_on) (defScope s_way_on) .none kV7 dc7 pm7 an7 cd7 ct7), sl7⟩) (c7 : PySem.W.codeIn K cd7 "way_on" = true) (k7 : PySem.W.keepIn K (.ref f7) = true)
    {od8 an8 : Option Addr} {sl8 : Array (Option Value)} {oc8 kV8 dc8 pm8 cd8 ct8 : Value} {f8 : Addr}
    (a8 : PySem.W.nsIn K mainGlobals "cost_of" = some (some (.ref f8))) (l8 : K.lookup f8 = some ⟨oc8, od8, .func (PySem.W.fnOf "cost_of" "cost_of" (defArgs s_cost_of) (defBody s_cost_of) (defScope s_cost_of) .none kV8 dc8 pm8 an8 cd8 ct8), sl8⟩) (c8 : PySem.W.codeIn K cd8 "cost_of" = true) (k8 : PySem.W.keepIn K (.ref f8) = true)
    {od9 an9 : Option Addr} {sl9 : Array (Option Value)} {oc9 kV9 dc9 pm9 cd9 ct9 : Value} {f9 : Addr}
    (a9 : PySem.W.nsIn K mainGlobals "places_behind" = some (some (.ref f9))) (l9 : K.lookup f9 = some ⟨oc9, od9, .func (PySem.W.fnOf "places_behind" "places_behind" (defArgs s_places_behind) (defBody s_places_behind) (defScope s_places_behind) .none kV9 dc9 pm9 an9 cd9 ct9), sl9⟩) (c9 : PySem.W.codeIn K cd9 "places_behind" = true) (k9 : PySem.W.keepIn K (.ref f9) = true)
    {od10 an10 : Option Addr} {sl10 : Array (Option Value)} {oc10 kV10 dc10 pm10 cd10 ct10 : Value} {f10 : Addr}
    (a10 : PySem.W.nsIn K mainGlobals "is_followed" = some (some (.ref f10))) (l10 : K.lookup f10 = some ⟨oc10, od10, .func (PySem.W.fnOf "is_followed" "is_followed" (defArgs s_is_followed) (defBody s_is_followed) (defScope s_is_followed) .none kV10 dc10 pm10 an10 cd10 ct10), sl10⟩) (c10 : PySem.W.codeIn K cd10 "is_followed" = true) (k10 : PySem.W.keepIn K (.ref f10) = true)
    {od11 an11 : Option Addr} {sl11 : Array (Option Value)} {oc11 kV11 dc11 pm11 cd11 ct11 : Value} {f11 : Addr}
    (a11 : PySem.W.nsIn K mainGlobals "least_table" = some (some (.ref f11))) (l11 : K.lookup f11 = some ⟨oc11, od11, .func (PySem.W.fnOf "least_table" "least_table" (defArgs s_least_table) (defBody s_least_table) (defScope s_least_table) .none kV11 dc11 pm11 an11 cd11 ct11), sl11⟩) (c11 : PySem.W.codeIn K cd11 "least_table" = true) (k11 : PySem.W.keepIn K (.ref f11) = true)
    {od12 an12 : Option Addr} {sl12 : Array (Option Value)} {oc12 kV12 dc12 pm12 cd12 ct12 : Value} {f12 : Addr}
    (a12 : PySem.W.nsIn K mainGlobals "is_within" = some (some (.ref f12))) (l12 : K.lookup f12 = some ⟨oc12, od12, .func (PySem.W.fnOf "is_within" "is_within" (defArgs s_is_within) (defBody s_is_within) (defScope s_is_within) .none kV12 dc12 pm12 an12 cd12 ct12), sl12⟩) (c12 : PySem.W.codeIn K cd12 "is_within" = true) (k12 : PySem.W.keepIn K (.ref f12) = true)
    {od13 an13 : Option Addr} {sl13 : Array (Option Value)} {oc13 kV13 dc13 pm13 cd13 ct13 : Value} {f13 : Addr}
    (a13 : PySem.W.nsIn K mainGlobals "raised" = some (some (.ref f13))) (l13 : K.lookup f13 = some ⟨oc13, od13, .func (PySem.W.fnOf "raised" "raised" (defArgs s_raised) (defBody s_raised) (defScope s_raised) .none kV13 dc13 pm13 an13 cd13 ct13), sl13⟩) (c13 : PySem.W.codeIn K cd13 "raised" = true) (k13 : PySem.W.keepIn K (.ref f13) = true)
    {od14 an14 : Option Addr} {sl14 : Array (Option Value)} {oc14 kV14 dc14 pm14 cd14 ct14 : Value} {f14 : Addr}
    (a14 : PySem.W.nsIn K mainGlobals "_law_deck" = some (some (.ref f14))) (l14 : K.lookup f14 = some ⟨oc14, od14, .func (PySem.W.fnOf "_law_deck" "_law_deck" (defArgs s_law_deck) (defBody s_law_deck) (defScope s_law_deck) .none kV14 dc14 pm14 an14 cd14 ct14), sl14⟩) (c14 : PySem.W.codeIn K cd14 "_law_deck" = true) (k14 : PySem.W.keepIn K (.ref f14) = true)
    {od15 an15 : Option Addr} {sl15 : Array (Option Value)} {oc15 kV15 dc15 pm15 cd15 ct15 : Value} {f15 : Addr}
    (a15 : PySem.W.nsIn K mainGlobals "_law_draw" = some (some (.ref f15))) (l15 : K.lookup f15 = some ⟨oc15, od15, .func (PySem.W.fnOf "_law_draw" "_law_draw" (defArgs s_law_draw) (defBody s_law_draw) (defScope s_law_draw) .none kV15 dc15 pm15 an15 cd15 ct15), sl15⟩) (c15 : PySem.W.codeIn K cd15 "_law_draw" = true) (k15 : PySem.W.keepIn K (.ref f15) = true)
    {od16 an16 : Option Addr} {sl16 : Array (Option Value)} {oc16 kV16 dc16 pm16 cd16 ct16 : Value} {f16 : Addr}
    (a16 : PySem.W.nsIn K mainGlobals "_law_same" = some (some (.ref f16))) (l16 : K.lookup f16 = some ⟨oc16, od16, .func (PySem.W.fnOf "_law_same" "_law_same" (defArgs s_law_same) (defBody s_law_same) (defScope s_law_same) .none kV16 dc16 pm16 an16 cd16 ct16), sl16⟩) (c16 : PySem.W.codeIn K cd16 "_law_same" = true) (k16 : PySem.W.keepIn K (.ref f16) = true)
    {od17 an17 : Option Addr} {sl17 : Array (Option Value)} {oc17 kV17 dc17 pm17 cd17 ct17 : Value} {f17 : Addr}
    (a17 : PySem.W.nsIn K mainGlobals "_law_same_list" = some (some (.ref f17))) (l17 : K.lookup f17 = some ⟨oc17, od17, .func (PySem.W.fnOf "_law_same_list" "_law_same_list" (defArgs s_law_same_list) (defBody s_law_same_list) (defScope s_law_same_list) .none kV17 dc17 pm17 an17 cd17 ct17), sl17⟩) (c17 : PySem.W.codeIn K cd17 "_law_same_list" = true) (k17 : PySem.W.keepIn K (.ref f17) = true)
    {od18 an18 : Option Addr} {sl18 : Array (Option Value)} {oc18 kV18 dc18 pm18 cd18 ct18 : Value} {f18 : Addr}
    (a18 : PySem.W.nsIn K mainGlobals "_law_words" = some (some (.ref f18))) (l18 : K.lookup f18 = some ⟨oc18, od18, .func (PySem.W.fnOf "_law_words" "_law_words" (defArgs s_law_words) (defBody s_law_words) (defScope s_law_words) .none kV18 dc18 pm18 an18 cd18 ct18), sl18⟩) (c18 : PySem.W.codeIn K cd18 "_law_words" = true) (k18 : PySem.W.keepIn K (.ref f18) = true)
    {od19 an19 : Option Addr} {sl19 : Array (Option Value)} {oc19 kV19 dc19 pm19 cd19 ct19 : Value} {f19 : Addr}
    (a19 : PySem.W.nsIn K mainGlobals "_law_effect" = some (some (.ref f19))) (l19 : K.lookup f19 = some ⟨oc19, od19, .func (PySem.W.fnOf "_law_effect" "_law_effect" (defArgs s_law_effect) (defBody s_law_effect) (defScope s_law_effect) .none kV19 dc19 pm19 an19 cd19 ct19), sl19⟩) (c19 : PySem.W.codeIn K cd19 "_law_effect" = true) (k19 : PySem.W.keepIn K (.ref f19) = true)
    {od20 an20 : Option Addr} {sl20 : Array (Option Value)} {oc20 kV20 dc20 pm20 cd20 ct20 : Value} {f20 : Addr}
    (a20 : PySem.W.nsIn K mainGlobals "_law_instruction" = some (some (.ref f20))) (l20 : K.lookup f20 = some ⟨oc20, od20, .func (PySem.W.fnOf "_law_instruction" "_law_instruction" (defArgs s_law_instruction) (defBody s_law_instruction) (defScope s_law_instruction) .none kV20 dc20 pm20 an20 cd20 ct20), sl20⟩) (c20 : PySem.W.codeIn K cd20 "_law_instruction" = true) (k20 : PySem.W.keepIn K (.ref f20) = true)
    {od21 an21 : Option Addr} {sl21 : Array (Option Value)} {oc21 kV21 dc21 pm21 cd21 ct21 : Value} {f21 : Addr}
    (a21 : PySem.W.nsIn K mainGlobals "_law_code" = some (some (.ref f21))) (l21 : K.lookup f21 = some ⟨oc21, od21, .func (PySem.W.fnOf "_law_code" "_law_code" (defArgs s_law_code) (defBody s_law_code) (defScope s_law_code) .none kV21 dc21 pm21 an21 cd21 ct21), sl21⟩) (c21 : PySem.W.codeIn K cd21 "_law_code" = true) (k21 : PySem.W.keepIn K (.ref f21) = true)
    {od22 an22 : Option Addr} {sl22 : Array (Option Value)} {oc22 kV22 dc22 pm22 cd22 ct22 : Value} {f22 : Addr}
    (a22 : PySem.W.nsIn K mainGlobals "_law_program" = some (some (.ref f22))) (l22 : K.lookup f22 = some ⟨oc22, od22, .func (PySem.W.fnOf "_law_program" "_law_program" (defArgs s_law_program) (defBody s_law_program) (defScope s_law_program) .none kV22 dc22 pm22 an22 cd22 ct22), sl22⟩) (c22 : PySem.W.codeIn K cd22 "_law_program" = true) (k22 : PySem.W.keepIn K (.ref f22) = true)
    {od23 an23 : Option Addr} {sl23 : Array (Option Value)} {oc23 kV23 dc23 pm23 cd23 ct23 : Value} {f23 : Addr}
    (a23 : PySem.W.nsIn K mainGlobals "_law_handed" = some (some (.ref f23))) (l23 : K.lookup f23 = some ⟨oc23, od23, .func (PySem.W.fnOf "_law_handed" "_law_handed" (defArgs s_law_handed) (defBody s_law_handed) (defScope s_law_handed) .none kV23 dc23 pm23 an23 cd23 ct23), sl23⟩) (c23 : PySem.W.codeIn K cd23 "_law_handed" = true) (k23 : PySem.W.keepIn K (.ref f23) = true)
    {od24 an24 : Option Addr} {sl24 : Array (Option Value)} {oc24 kV24 dc24 pm24 cd24 ct24 : Value} {f24 : Addr}
    (a24 : PySem.W.nsIn K mainGlobals "_law_next" = some (some (.ref f24))) (l24 : K.lookup f24 = some ⟨oc24, od24, .func (PySem.W.fnOf "_law_next" "_law_next" (defArgs s_law_next) (defBody s_law_next) (defScope s_law_next) .none kV24 dc24 pm24 an24 cd24 ct24), sl24⟩) (c24 : PySem.W.codeIn K cd24 "_law_next" = true) (k24 : PySem.W.keepIn K (.ref f24) = true)
    {od25 an25 : Option Addr} {sl25 : Array (Option Value)} {oc25 kV25 dc25 pm25 cd25 ct25 : Value} {f25 : Addr}
    (a25 : PySem.W.nsIn K mainGlobals "_law_cost_at" = some (some (.ref f25))) (l25 : K.lookup f25 = some ⟨oc25, od25, .func (PySem.W.fnOf "_law_cost_at" "_law_cost_at" (defArgs s_law_cost_at) (defBody s_law_cost_at) (defScope s_law_cost_at) .none kV25 dc25 pm25 an25 cd25 ct25), sl25⟩) (c25 : PySem.W.codeIn K cd25 "_law_cost_at" = true) (k25 : PySem.W.keepIn K (.ref f25) = true)
    {od26 an26 : Option Addr} {sl26 : Array (Option Value)} {oc26 kV26 dc26 pm26 cd26 ct26 : Value} {f26 : Addr}
    (a26 : PySem.W.nsIn K mainGlobals "_law_judged" = some (some (.ref f26))) (l26 : K.lookup f26 = some ⟨oc26, od26, .func (PySem.W.fnOf "_law_judged" "_law_judged" (defArgs s_law_judged) (defBody s_law_judged) (defScope s_law_judged) .none kV26 dc26 pm26 an26 cd26 ct26), sl26⟩) (c26 : PySem.W.codeIn K cd26 "_law_judged" = true) (k26 : PySem.W.keepIn K (.ref f26) = true)
    {od27 an27 : Option Addr} {sl27 : Array (Option Value)} {oc27 kV27 dc27 pm27 cd27 ct27 : Value} {f27 : Addr}
    (a27 : PySem.W.nsIn K mainGlobals "_law_made_table" = some (some (.ref f27))) (l27 : K.lookup f27 = some ⟨oc27, od27, .func (PySem.W.fnOf "_law_made_table" "_law_made_table" (defArgs s_law_made_table) (defBody s_law_made_table) (defScope s_law_made_table) .none kV27 dc27 pm27 an27 cd27 ct27), sl27⟩) (c27 : PySem.W.codeIn K cd27 "_law_made_table" = true) (k27 : PySem.W.keepIn K (.ref f27) = true)
    {od28 an28 : Option Addr} {sl28 : Array (Option Value)} {oc28 kV28 dc28 pm28 cd28 ct28 : Value} {f28 : Addr}
    (a28 : PySem.W.nsIn K mainGlobals "_law_made_tables" = some (some (.ref f28))) (l28 : K.lookup f28 = some ⟨oc28, od28, .func (PySem.W.fnOf "_law_made_tables" "_law_made_tables" (defArgs s_law_made_tables) (defBody s_law_made_tables) (defScope s_law_made_tables) .none kV28 dc28 pm28 an28 cd28 ct28), sl28⟩) (c28 : PySem.W.codeIn K cd28 "_law_made_tables" = true) (k28 : PySem.W.keepIn K (.ref f28) = true)
    {od29 an29 : Option Addr} {sl29 : Array (Option Value)} {oc29 kV29 dc29 pm29 cd29 ct29 : Value} {f29 : Addr}
    (a29 : PySem.W.nsIn K mainGlobals "_law_tame" = some (some (.ref f29))) (l29 : K.lookup f29 = some ⟨oc29, od29, .func (PySem.W.fnOf "_law_tame" "_law_tame" (defArgs s_law_tame) (defBody s_law_tame) (defScope s_law_tame) .none kV29 dc29 pm29 an29 cd29 ct29), sl29⟩) (c29 : PySem.W.codeIn K cd29 "_law_tame" = true) (k29 : PySem.W.keepIn K (.ref f29) = true)
    {od30 an30 : Option Addr} {sl30 : Array (Option Value)} {oc30 kV30 dc30 pm30 cd30 ct30 : Value} {f30 : Addr}
    (a30 : PySem.W.nsIn K mainGlobals "_law_tame_program" = some (some (.ref f30))) (l30 : K.lookup f30 = some ⟨oc30, od30, .func (PySem.W.fnOf "_law_tame_program" "_law_tame_program" (defArgs s_law_tame_program) (defBody s_law_tame_program) (defScope s_law_tame_program) .none kV30 dc30 pm30 an30 cd30 ct30), sl30⟩) (c30 : PySem.W.codeIn K cd30 "_law_tame_program" = true) (k30 : PySem.W.keepIn K (.ref f30) = true)
    {od31 an31 : Option Addr} {sl31 : Array (Option Value)} {oc31 kV31 dc31 pm31 cd31 ct31 : Value} {f31 : Addr}
    (a31 : PySem.W.nsIn K mainGlobals "_law_bent_table" = some (some (.ref f31))) (l31 : K.lookup f31 = some ⟨oc31, od31, .func (PySem.W.fnOf "_law_bent_table" "_law_bent_table" (defArgs s_law_bent_table) (defBody s_law_bent_table) (defScope s_law_bent_table) .none kV31 dc31 pm31 an31 cd31 ct31), sl31⟩) (c31 : PySem.W.codeIn K cd31 "_law_bent_table" = true) (k31 : PySem.W.keepIn K (.ref f31) = true)
    {od32 an32 : Option Addr} {sl32 : Array (Option Value)} {oc32 kV32 dc32 pm32 cd32 ct32 : Value} {f32 : Addr}
    (a32 : PySem.W.nsIn K mainGlobals "_law_told" = some (some (.ref f32))) (l32 : K.lookup f32 = some ⟨oc32, od32, .func (PySem.W.fnOf "_law_told" "_law_told" (defArgs s_law_told) (defBody s_law_told) (defScope s_law_told) .none kV32 dc32 pm32 an32 cd32 ct32), sl32⟩) (c32 : PySem.W.codeIn K cd32 "_law_told" = true) (k32 : PySem.W.keepIn K (.ref f32) = true)
    {od33 an33 : Option Addr} {sl33 : Array (Option Value)} {oc33 kV33 dc33 pm33 cd33 ct33 : Value} {f33 : Addr}
    (a33 : PySem.W.nsIn K mainGlobals "_law_no_less" = some (some (.ref f33))) (l33 : K.lookup f33 = some ⟨oc33, od33, .func (PySem.W.fnOf "_law_no_less" "_law_no_less" (defArgs s_law_no_less) (defBody s_law_no_less) (defScope s_law_no_less) .none kV33 dc33 pm33 an33 cd33 ct33), sl33⟩) (c33 : PySem.W.codeIn K cd33 "_law_no_less" = true) (k33 : PySem.W.keepIn K (.ref f33) = true)
    {od34 an34 : Option Addr} {sl34 : Array (Option Value)} {oc34 kV34 dc34 pm34 cd34 ct34 : Value} {f34 : Addr}
    (a34 : PySem.W.nsIn K mainGlobals "law" = some (some (.ref f34))) (l34 : K.lookup f34 = some ⟨oc34, od34, .func (PySem.W.fnOf "law" "law" (defArgs s_law) (defBody s_law) (defScope s_law) .none kV34 dc34 pm34 an34 cd34 ct34), sl34⟩) (c34 : PySem.W.codeIn K cd34 "law" = true) (k34 : PySem.W.keepIn K (.ref f34) = true)
    (z_all : PySem.W.nsIn K mainGlobals "all" = some none)
    (z_bool : PySem.W.nsIn K mainGlobals "bool" = some none)
    (z_enumerate : PySem.W.nsIn K mainGlobals "enumerate" = some none)
    (z_int : PySem.W.nsIn K mainGlobals "int" = some none)
    (z_isinstance : PySem.W.nsIn K mainGlobals "isinstance" = some none)
    (z_len : PySem.W.nsIn K mainGlobals "len" = some none)
    (z_list : PySem.W.nsIn K mainGlobals "list" = some none)
    (z_max : PySem.W.nsIn K mainGlobals "max" = some none)
    (z_min : PySem.W.nsIn K mainGlobals "min" = some none)
    (z_range : PySem.W.nsIn K mainGlobals "range" = some none)
    (z_str : PySem.W.nsIn K mainGlobals "str" = some none)
    (z_tuple : PySem.W.nsIn K mainGlobals "tuple" = some none)
    (z_zip : PySem.W.nsIn K mainGlobals "zip" = some none)
    {gt_LEAST_NUMBER : Tok} (g_LEAST_NUMBER : PySem.W.nsIn K mainGlobals "LEAST_NUMBER" = some (some (.int (-2147483648) gt_LEAST_NUMBER)))
    {gt_MAIN : Tok} (g_MAIN : PySem.W.nsIn K mainGlobals "MAIN" = some (some (.int (-1) gt_MAIN)))
    {gt_MANY_NUMBERS : Tok} (g_MANY_NUMBERS : PySem.W.nsIn K mainGlobals "MANY_NUMBERS" = some (some (.int (4294967296) gt_MANY_NUMBERS)))
    {gt_MOST_CALLS : Tok} (g_MOST_CALLS : PySem.W.nsIn K mainGlobals "MOST_CALLS" = some (some (.int (20) gt_MOST_CALLS)))
    {gt_MOST_ROUNDS : Tok} (g_MOST_ROUNDS : PySem.W.nsIn K mainGlobals "MOST_ROUNDS" = some (some (.int (16) gt_MOST_ROUNDS)))
    {gt_MOST_STEPS : Tok} (g_MOST_STEPS : PySem.W.nsIn K mainGlobals "MOST_STEPS" = some (some (.int (4096) gt_MOST_STEPS)))
    {gt_MOST_VALUES : Tok} (g_MOST_VALUES : PySem.W.nsIn K mainGlobals "MOST_VALUES" = some (some (.int (32) gt_MOST_VALUES)))
    {C_FleuronError : Addr} (g_FleuronError : PySem.W.nsIn K mainGlobals "FleuronError" = some (some (.ref C_FleuronError))) (sg_FleuronError : PySem.W.specialIn K (.ref C_FleuronError) "__getattribute__" = some (some (.builtin "type.__getattribute__"))) (ty_FleuronError : PySem.W.typeIn K (.ref C_FleuronError) = some (.type "type")) (rd_FleuronError : PySem.W.readsIn K C_FleuronError (.type "type") = true) (fc_FleuronError : PySem.W.findCls K (.ref C_FleuronError) (.type "type") "__init__" = some (.val (.builtin "ValueError.__init__"))) (be_FleuronError : PySem.W.subIn K (.ref C_FleuronError) (.type "BaseException") = some true) (hd_FleuronError : PySem.W.hasDictIn K C_FleuronError = true) {C_NoTable N_NoTable fI_NoTable : Addr} {nm_NoTable qn_NoTable : Str} {bs_NoTable : List Value} {sn_NoTable : List Str} {su_NoTable : List Value} {ab_NoTable : Bool} {co_NoTable : Option Bool} {dd_NoTable : Option Addr} {m0_NoTable m1_NoTable m2_NoTable m3_NoTable m5_NoTable : Option Value} {oI_NoTable kI_NoTable dI_NoTable pI_NoTable cI_NoTable tI_NoTable : Value} {odI_NoTable anI_NoTable : Option Addr} {slI_NoTable : Array (Option Value)} (g_NoTable : PySem.W.nsIn K mainGlobals "NoTable" = some (some (.ref C_NoTable))) (xL_NoTable : K.lookup C_NoTable = some (excClassObj nm_NoTable qn_NoTable C_NoTable N_NoTable bs_NoTable [.ref C_FleuronError, .type "ValueError", .type "Exception", .type "BaseException", .type "object"] true sn_NoTable su_NoTable ab_NoTable co_NoTable dd_NoTable m0_NoTable m1_NoTable m2_NoTable m3_NoTable m5_NoTable "ValueError.__new__")) (sa_NoTable : PySem.W.findIn K (.ref C_NoTable) "__setattr__" = some (some (.builtin "object.__setattr__"))) (be_NoTable : PySem.W.subIn K (.ref C_NoTable) (.type "BaseException") = some true) (ty_NoTable : PySem.W.typeIn K (.ref C_NoTable) = some (.type "type")) (kC_NoTable : PySem.W.keepIn K (.ref C_NoTable) = true) (hd_NoTable : PySem.W.hasDictIn K C_NoTable = true) (fn_NoTable : PySem.W.findIn K (.ref C_NoTable) "function" = some none) (fm_NoTable : PySem.W.findIn K (.ref C_NoTable) "place" = some none) (ga_NoTable : PySem.W.findIn K (.ref C_NoTable) "__getattribute__" = some (some (.builtin "BaseException.__getattribute__"))) (gg_NoTable : PySem.W.findIn K (.ref C_NoTable) "__getattr__" = some none) (in_NoTable : PySem.W.findIn K (.ref C_NoTable) "__init__" = some (some (.ref fI_NoTable))) (tf_NoTable : PySem.W.typeIn K (.ref fI_NoTable) = some (.type "function")) (li_NoTable : K.lookup fI_NoTable = some ⟨oI_NoTable, odI_NoTable, .func (PySem.W.fnOf "__init__" "NoTable.__init__" (defArgs s_NoTable) (defBody s_NoTable) (defScope s_NoTable) .none kI_NoTable dI_NoTable pI_NoTable anI_NoTable cI_NoTable tI_NoTable), slI_NoTable⟩) (ci_NoTable : PySem.W.codeIn K cI_NoTable "NoTable.__init__" = true) (ki_NoTable : PySem.W.keepIn K (.ref fI_NoTable) = true) (ss_NoTable : PySem.W.subIn K (.ref C_NoTable) (.ref C_NoTable) = some true) {A_CALLS : Addr} {od_CALLS : Option Addr} {nn_CALLS : Nat} {sl_CALLS : Array (Option Value)} {tk_CALLS_0 : Tok} {tk_CALLS_1 : Tok} (g_CALLS : PySem.W.nsIn K mainGlobals "CALLS" = some (some (.ref A_CALLS))) (t_CALLS : K.lookup A_CALLS = some ⟨.type "tuple", od_CALLS, .seq #[.str "call" tk_CALLS_0, .str "repeat" tk_CALLS_1] nn_CALLS, sl_CALLS⟩) {A_JUMPS : Addr} {od_JUMPS : Option Addr} {nn_JUMPS : Nat} {sl_JUMPS : Array (Option Value)} {tk_JUMPS_0 : Tok} {tk_JUMPS_1 : Tok} (g_JUMPS : PySem.W.nsIn K mainGlobals "JUMPS" = some (some (.ref A_JUMPS))) (t_JUMPS : K.lookup A_JUMPS = some ⟨.type "tuple", od_JUMPS, .seq #[.str "jump" tk_JUMPS_0, .str "jumpzero" tk_JUMPS_1] nn_JUMPS, sl_JUMPS⟩) {C_Program fI_Program D_Program : Addr} {oI_Program dI_Program pI_Program cI_Program tI_Program : Value} {odI_Program anI_Program : Option Addr} {slI_Program : Array (Option Value)} (g_Program : PySem.W.nsIn K mainGlobals "Program" = some (some (.ref C_Program))) (pg_Program : PySem.W.plainGet K C_Program Str.empty = true) (hd_Program : PySem.W.hasDictIn K C_Program = true) (po_Program : PySem.W.plainOver K C_Program = true) (sa_Program : PySem.W.findIn K (.ref C_Program) "__setattr__" = some (some (.builtin "object.__setattr__"))) (mk_Program : PySem.W.makesIn K C_Program = true) (in_Program : PySem.W.findIn K (.ref C_Program) "__init__" = some (some (.ref fI_Program))) (fn_Program : PySem.W.isFn K (.ref fI_Program) = true) (kc_Program : PySem.W.keepIn K (.ref C_Program) = true) (li_Program : K.lookup fI_Program = some ⟨oI_Program, odI_Program, .func (PySem.W.fnOf "__init__" "Program.__init__" (defArgs s_Program) (defBody s_Program) (defScope s_Program) .none (.ref D_Program) dI_Program pI_Program anI_Program cI_Program tI_Program), slI_Program⟩) (ci_Program : PySem.W.codeIn K cI_Program "Program.__init__" = true) (ki_Program : PySem.W.keepIn K (.ref fI_Program) = true) {e_Program_functions : Addr} {oe_Program_functions : Option Addr} {ne_Program_functions : Nat} {se_Program_functions : Array (Option Value)} (kd_Program_functions : PySem.W.nsIn K D_Program "functions" = some (some (.ref e_Program_functions))) (em_Program_functions : K.lookup e_Program_functions = some ⟨.type "tuple", oe_Program_functions, .seq #[] ne_Program_functions, se_Program_functions⟩) {e_Program_presets : Addr} {oe_Program_presets : Option Addr} {ne_Program_presets : Nat} {se_Program_presets : Array (Option Value)} (kd_Program_presets : PySem.W.nsIn K D_Program "presets" = some (some (.ref e_Program_presets))) (em_Program_presets : K.lookup e_Program_presets = some ⟨.type "tuple", oe_Program_presets, .seq #[] ne_Program_presets, se_Program_presets⟩) {tk_Program_size : Tok} (kd_Program_size : PySem.W.nsIn K D_Program "size" = some (some (.int 0 tk_Program_size))) (na_Program_main : PySem.W.findIn K (.ref C_Program) "main" = some none) (na_Program_functions : PySem.W.findIn K (.ref C_Program) "functions" = some none) (na_Program_presets : PySem.W.findIn K (.ref C_Program) "presets" = some none) (na_Program_size : PySem.W.findIn K (.ref C_Program) "size" = some none) {A_WORDS : Addr} {es_WORDS : Array DictEntry} {nn_WORDS : Nat} (g_WORDS : PySem.W.nsIn K mainGlobals "WORDS" = some (some (.ref A_WORDS))) (l_WORDS : K.lookup A_WORDS = some ⟨.type "dict", none, .dict es_WORDS nn_WORDS, #[]⟩) (kl_WORDS : PySem.W.KeysLit w.params es_WORDS.toList) (sm_WORDS : (A_WORDS == sysModules) = false) {t_WORDS_0 : Addr} {od_WORDS_0 : Option Addr} {nt_WORDS_0 : Nat} {sl_WORDS_0 : Array (Option Value)} {tk_WORDS_0_0 : Tok} {tk_WORDS_0_1 : Tok} (e_WORDS_0 : PySem.W.nsIn K A_WORDS "push" = some (some (.ref t_WORDS_0))) (lt_WORDS_0 : K.lookup t_WORDS_0 = some ⟨.type "tuple", od_WORDS_0, .seq #[.int 0 tk_WORDS_0_0, .int 1 tk_WORDS_0_1] nt_WORDS_0, sl_WORDS_0⟩) {t_WORDS_1 : Addr} {od_WORDS_1 : Option Addr} {nt_WORDS_1 : Nat} {sl_WORDS_1 : Array (Option Value)} {tk_WORDS_1_0 : Tok} {tk_WORDS_1_1 : Tok} (e_WORDS_1 : PySem.W.nsIn K A_WORDS "size" = some (some (.ref t_WORDS_1))) (lt_WORDS_1 : K.lookup t_WORDS_1 = some ⟨.type "tuple", od_WORDS_1, .seq #[.int 0 tk_WORDS_1_0, .int 1 tk_WORDS_1_1] nt_WORDS_1, sl_WORDS_1⟩) (e_WORDS_2 : PySem.W.nsIn K A_WORDS "take" = some none) {t_WORDS_3 : Addr} {od_WORDS_3 : Option Addr} {nt_WORDS_3 : Nat} {sl_WORDS_3 : Array (Option Value)} {tk_WORDS_3_0 : Tok} {tk_WORDS_3_1 : Tok} (e_WORDS_3 : PySem.W.nsIn K A_WORDS "jump" = some (some (.ref t_WORDS_3))) (lt_WORDS_3 : K.lookup t_WORDS_3 = some ⟨.type "tuple", od_WORDS_3, .seq #[.int 0 tk_WORDS_3_0, .int 0 tk_WORDS_3_1] nt_WORDS_3, sl_WORDS_3⟩) {t_WORDS_4 : Addr} {od_WORDS_4 : Option Addr} {nt_WORDS_4 : Nat} {sl_WORDS_4 : Array (Option Value)} {tk_WORDS_4_0 : Tok} {tk_WORDS_4_1 : Tok} (e_WORDS_4 : PySem.W.nsIn K A_WORDS "jumpzero" = some (some (.ref t_WORDS_4))) (lt_WORDS_4 : K.lookup t_WORDS_4 = some ⟨.type "tuple", od_WORDS_4, .seq #[.int 1 tk_WORDS_4_0, .int 0 tk_WORDS_4_1] nt_WORDS_4, sl_WORDS_4⟩) (e_WORDS_5 : PySem.W.nsIn K A_WORDS "jumpsmall" = some none) (e_WORDS_6 : PySem.W.nsIn K A_WORDS "end" = some none) {t_WORDS_7 : Addr} {od_WORDS_7 : Option Addr} {nt_WORDS_7 : Nat} {sl_WORDS_7 : Array (Option Value)} {tk_WORDS_7_0 : Tok} {tk_WORDS_7_1 : Tok} (e_WORDS_7 : PySem.W.nsIn K A_WORDS "drop" = some (some (.ref t_WORDS_7))) (lt_WORDS_7 : K.lookup t_WORDS_7 = some ⟨.type "tuple", od_WORDS_7, .seq #[.int 1 tk_WORDS_7_0, .int 0 tk_WORDS_7_1] nt_WORDS_7, sl_WORDS_7⟩) {t_WORDS_8 : Addr} {od_WORDS_8 : Option Addr} {nt_WORDS_8 : Nat} {sl_WORDS_8 : Array (Option Value)} {tk_WORDS_8_0 : Tok} {tk_WORDS_8_1 : Tok} (e_WORDS_8 : PySem.W.nsIn K A_WORDS "copy" = some (some (.ref t_WORDS_8))) (lt_WORDS_8 : K.lookup t_WORDS_8 = some ⟨.type "tuple", od_WORDS_8, .seq #[.int 1 tk_WORDS_8_0, .int 2 tk_WORDS_8_1] nt_WORDS_8, sl_WORDS_8⟩) {t_WORDS_9 : Addr} {od_WORDS_9 : Option Addr} {nt_WORDS_9 : Nat} {sl_WORDS_9 : Array (Option Value)} {tk_WORDS_9_0 : Tok} {tk_WORDS_9_1 : Tok} (e_WORDS_9 : PySem.W.nsIn K A_WORDS "swap" = some (some (.ref t_WORDS_9))) (lt_WORDS_9 : K.lookup t_WORDS_9 = some ⟨.type "tuple", od_WORDS_9, .seq #[.int 2 tk_WORDS_9_0, .int 2 tk_WORDS_9_1] nt_WORDS_9, sl_WORDS_9⟩) {t_WORDS_10 : Addr} {od_WORDS_10 : Option Addr} {nt_WORDS_10 : Nat} {sl_WORDS_10 : Array (Option Value)} {tk_WORDS_10_0 : Tok} {tk_WORDS_10_1 : Tok} (e_WORDS_10 : PySem.W.nsIn K A_WORDS "add" = some (some (.ref t_WORDS_10))) (lt_WORDS_10 : K.lookup t_WORDS_10 = some ⟨.type "tuple", od_WORDS_10, .seq #[.int 2 tk_WORDS_10_0, .int 1 tk_WORDS_10_1] nt_WORDS_10, sl_WORDS_10⟩) {t_WORDS_11 : Addr} {od_WORDS_11 : Option Addr} {nt_WORDS_11 : Nat} {sl_WORDS_11 : Array (Option Value)} {tk_WORDS_11_0 : Tok} {tk_WORDS_11_1 : Tok} (e_WORDS_11 : PySem.W.nsIn K A_WORDS "subtract" = some (some (.ref t_WORDS_11))) (lt_WORDS_11 : K.lookup t_WORDS_11 = some ⟨.type "tuple", od_WORDS_11, .seq #[.int 2 tk_WORDS_11_0, .int 1 tk_WORDS_11_1] nt_WORDS_11, sl_WORDS_11⟩) {t_WORDS_12 : Addr} {od_WORDS_12 : Option Addr} {nt_WORDS_12 : Nat} {sl_WORDS_12 : Array (Option Value)} {tk_WORDS_12_0 : Tok} {tk_WORDS_12_1 : Tok} (e_WORDS_12 : PySem.W.nsIn K A_WORDS "multiply" = some (some (.ref t_WORDS_12))) (lt_WORDS_12 : K.lookup t_WORDS_12 = some ⟨.type "tuple", od_WORDS_12, .seq #[.int 2 tk_WORDS_12_0, .int 1 tk_WORDS_12_1] nt_WORDS_12, sl_WORDS_12⟩) {t_WORDS_13 : Addr} {od_WORDS_13 : Option Addr} {nt_WORDS_13 : Nat} {sl_WORDS_13 : Array (Option Value)} {tk_WORDS_13_0 : Tok} {tk_WORDS_13_1 : Tok} (e_WORDS_13 : PySem.W.nsIn K A_WORDS "divide" = some (some (.ref t_WORDS_13))) (lt_WORDS_13 : K.lookup t_WORDS_13 = some ⟨.type "tuple", od_WORDS_13, .seq #[.int 2 tk_WORDS_13_0, .int 1 tk_WORDS_13_1] nt_WORDS_13, sl_WORDS_13⟩) {t_WORDS_14 : Addr} {od_WORDS_14 : Option Addr} {nt_WORDS_14 : Nat} {sl_WORDS_14 : Array (Option Value)} {tk_WORDS_14_0 : Tok} {tk_WORDS_14_1 : Tok} (e_WORDS_14 : PySem.W.nsIn K A_WORDS "negate" = some (some (.ref t_WORDS_14))) (lt_WORDS_14 : K.lookup t_WORDS_14 = some ⟨.type "tuple", od_WORDS_14, .seq #[.int 1 tk_WORDS_14_0, .int 1 tk_WORDS_14_1] nt_WORDS_14, sl_WORDS_14⟩) {t_WORDS_15 : Addr} {od_WORDS_15 : Option Addr} {nt_WORDS_15 : Nat} {sl_WORDS_15 : Array (Option Value)} {tk_WORDS_15_0 : Tok} {tk_WORDS_15_1 : Tok} (e_WORDS_15 : PySem.W.nsIn K A_WORDS "amount" = some (some (.ref t_WORDS_15))) (lt_WORDS_15 : K.lookup t_WORDS_15 = some ⟨.type "tuple", od_WORDS_15, .seq #[.int 1 tk_WORDS_15_0, .int 1 tk_WORDS_15_1] nt_WORDS_15, sl_WORDS_15⟩) {t_WORDS_16 : Addr} {od_WORDS_16 : Option Addr} {nt_WORDS_16 : Nat} {sl_WORDS_16 : Array (Option Value)} {tk_WORDS_16_0 : Tok} {tk_WORDS_16_1 : Tok} (e_WORDS_16 : PySem.W.nsIn K A_WORDS "lesser" = some (some (.ref t_WORDS_16))) (lt_WORDS_16 : K.lookup t_WORDS_16 = some ⟨.type "tuple", od_WORDS_16, .seq #[.int 2 tk_WORDS_16_0, .int 1 tk_WORDS_16_1] nt_WORDS_16, sl_WORDS_16⟩) {t_WORDS_17 : Addr} {od_WORDS_17 : Option Addr} {nt_WORDS_17 : Nat} {sl_WORDS_17 : Array (Option Value)} {tk_WORDS_17_0 : Tok} {tk_WORDS_17_1 : Tok} (e_WORDS_17 : PySem.W.nsIn K A_WORDS "greater" = some (some (.ref t_WORDS_17))) (lt_WORDS_17 : K.lookup t_WORDS_17 = some ⟨.type "tuple", od_WORDS_17, .seq #[.int 2 tk_WORDS_17_0, .int 1 tk_WORDS_17_1] nt_WORDS_17, sl_WORDS_17⟩) {t_WORDS_18 : Addr} {od_WORDS_18 : Option Addr} {nt_WORDS_18 : Nat} {sl_WORDS_18 : Array (Option Value)} {tk_WORDS_18_0 : Tok} {tk_WORDS_18_1 : Tok} (e_WORDS_18 : PySem.W.nsIn K A_WORDS "down" = some (some (.ref t_WORDS_18))) (lt_WORDS_18 : K.lookup t_WORDS_18 = some ⟨.type "tuple", od_WORDS_18, .seq #[.int 1 tk_WORDS_18_0, .int 1 tk_WORDS_18_1] nt_WORDS_18, sl_WORDS_18⟩) {t_WORDS_19 : Addr} {od_WORDS_19 : Option Addr} {nt_WORDS_19 : Nat} {sl_WORDS_19 : Array (Option Value)} {tk_WORDS_19_0 : Tok} {tk_WORDS_19_1 : Tok} (e_WORDS_19 : PySem.W.nsIn K A_WORDS "up" = some (some (.ref t_WORDS_19))) (lt_WORDS_19 : K.lookup t_WORDS_19 = some ⟨.type "tuple", od_WORDS_19, .seq #[.int 1 tk_WORDS_19_0, .int 1 tk_WORDS_19_1] nt_WORDS_19, sl_WORDS_19⟩) {t_WORDS_20 : Addr} {od_WORDS_20 : Option Addr} {nt_WORDS_20 : Nat} {sl_WORDS_20 : Array (Option Value)} {tk_WORDS_20_0 : Tok} {tk_WORDS_20_1 : Tok} (e_WORDS_20 : PySem.W.nsIn K A_WORDS "round" = some (some (.ref t_WORDS_20))) (lt_WORDS_20 : K.lookup t_WORDS_20 = some ⟨.type "tuple", od_WORDS_20, .seq #[.int 1 tk_WORDS_20_0, .int 1 tk_WORDS_20_1] nt_WORDS_20, sl_WORDS_20⟩) {t_WORDS_21 : Addr} {od_WORDS_21 : Option Addr} {nt_WORDS_21 : Nat} {sl_WORDS_21 : Array (Option Value)} {tk_WORDS_21_0 : Tok} {tk_WORDS_21_1 : Tok} (e_WORDS_21 : PySem.W.nsIn K A_WORDS "less" = some (some (.ref t_WORDS_21))) (lt_WORDS_21 : K.lookup t_WORDS_21 = some ⟨.type "tuple", od_WORDS_21, .seq #[.int 2 tk_WORDS_21_0, .int 1 tk_WORDS_21_1] nt_WORDS_21, sl_WORDS_21⟩) {t_WORDS_22 : Addr} {od_WORDS_22 : Option Addr} {nt_WORDS_22 : Nat} {sl_WORDS_22 : Array (Option Value)} {tk_WORDS_22_0 : Tok} {tk_WORDS_22_1 : Tok} (e_WORDS_22 : PySem.W.nsIn K A_WORDS "atmost" = some (some (.ref t_WORDS_22))) (lt_WORDS_22 : K.lookup t_WORDS_22 = some ⟨.type "tuple", od_WORDS_22, .seq #[.int 2 tk_WORDS_22_0, .int 1 tk_WORDS_22_1] nt_WORDS_22, sl_WORDS_22⟩) {t_WORDS_23 : Addr} {od_WORDS_23 : Option Addr} {nt_WORDS_23 : Nat} {sl_WORDS_23 : Array (Option Value)} {tk_WORDS_23_0 : Tok} {tk_WORDS_23_1 : Tok} (e_WORDS_23 : PySem.W.nsIn K A_WORDS "equal" = some (some (.ref t_WORDS_23))) (lt_WORDS_23 : K.lookup t_WORDS_23 = some ⟨.type "tuple", od_WORDS_23, .seq #[.int 2 tk_WORDS_23_0, .int 1 tk_WORDS_23_1] nt_WORDS_23, sl_WORDS_23⟩) {t_WORDS_24 : Addr} {od_WORDS_24 : Option Addr} {nt_WORDS_24 : Nat} {sl_WORDS_24 : Array (Option Value)} {tk_WORDS_24_0 : Tok} {tk_WORDS_24_1 : Tok} (e_WORDS_24 : PySem.W.nsIn K A_WORDS "not" = some (some (.ref t_WORDS_24))) (lt_WORDS_24 : K.lookup t_WORDS_24 = some ⟨.type "tuple", od_WORDS_24, .seq #[.int 1 tk_WORDS_24_0, .int 1 tk_WORDS_24_1] nt_WORDS_24, sl_WORDS_24⟩) {t_WORDS_25 : Addr} {od_WORDS_25 : Option Addr} {nt_WORDS_25 : Nat} {sl_WORDS_25 : Array (Option Value)} {tk_WORDS_25_0 : Tok} {tk_WORDS_25_1 : Tok} (e_WORDS_25 : PySem.W.nsIn K A_WORDS "and" = some (some (.ref t_WORDS_25))) (lt_WORDS_25 : K.lookup t_WORDS_25 = some ⟨.type "tuple", od_WORDS_25, .seq #[.int 2 tk_WORDS_25_0, .int 1 tk_WORDS_25_1] nt_WORDS_25, sl_WORDS_25⟩) {t_WORDS_26 : Addr} {od_WORDS_26 : Option Addr} {nt_WORDS_26 : Nat} {sl_WORDS_26 : Array (Option Value)} {tk_WORDS_26_0 : Tok} {tk_WORDS_26_1 : Tok} (e_WORDS_26 : PySem.W.nsIn K A_WORDS "or" = some (some (.ref t_WORDS_26))) (lt_WORDS_26 : K.lookup t_WORDS_26 = some ⟨.type "tuple", od_WORDS_26, .seq #[.int 2 tk_WORDS_26_0, .int 1 tk_WORDS_26_1] nt_WORDS_26, sl_WORDS_26⟩) {t_WORDS_27 : Addr} {od_WORDS_27 : Option Addr} {nt_WORDS_27 : Nat} {sl_WORDS_27 : Array (Option Value)} {tk_WORDS_27_0 : Tok} {tk_WORDS_27_1 : Tok} (e_WORDS_27 : PySem.W.nsIn K A_WORDS "look" = some (some (.ref t_WORDS_27))) (lt_WORDS_27 : K.lookup t_WORDS_27 = some ⟨.type "tuple", od_WORDS_27, .seq #[.int 0 tk_WORDS_27_0, .int 0 tk_WORDS_27_1] nt_WORDS_27, sl_WORDS_27⟩) {t_WORDS_28 : Addr} {od_WORDS_28 : Option Addr} {nt_WORDS_28 : Nat} {sl_WORDS_28 : Array (Option Value)} {tk_WORDS_28_0 : Tok} {tk_WORDS_28_1 : Tok} (e_WORDS_28 : PySem.W.nsIn K A_WORDS "go" = some (some (.ref t_WORDS_28))) (lt_WORDS_28 : K.lookup t_WORDS_28 = some ⟨.type "tuple", od_WORDS_28, .seq #[.int 0 tk_WORDS_28_0, .int 0 tk_WORDS_28_1] nt_WORDS_28, sl_WORDS_28⟩) {t_WORDS_29 : Addr} {od_WORDS_29 : Option Addr} {nt_WORDS_29 : Nat} {sl_WORDS_29 : Array (Option Value)} {tk_WORDS_29_0 : Tok} {tk_WORDS_29_1 : Tok} (e_WORDS_29 : PySem.W.nsIn K A_WORDS "mode" = some (some (.ref t_WORDS_29))) (lt_WORDS_29 : K.lookup t_WORDS_29 = some ⟨.type "tuple", od_WORDS_29, .seq #[.int 0 tk_WORDS_29_0, .int 0 tk_WORDS_29_1] nt_WORDS_29, sl_WORDS_29⟩) {t_WORDS_30 : Addr} {od_WORDS_30 : Option Addr} {nt_WORDS_30 : Nat} {sl_WORDS_30 : Array (Option Value)} {tk_WORDS_30_0 : Tok} {tk_WORDS_30_1 : Tok} (e_WORDS_30 : PySem.W.nsIn K A_WORDS "value" = some (some (.ref t_WORDS_30))) (lt_WORDS_30 : K.lookup t_WORDS_30 = some ⟨.type "tuple", od_WORDS_30, .seq #[.int 1 tk_WORDS_30_0, .int 1 tk_WORDS_30_1] nt_WORDS_30, sl_WORDS_30⟩) {t_WORDS_31 : Addr} {od_WORDS_31 : Option Addr} {nt_WORDS_31 : Nat} {sl_WORDS_31 : Array (Option Value)} {tk_WORDS_31_0 : Tok} {tk_WORDS_31_1 : Tok} (e_WORDS_31 : PySem.W.nsIn K A_WORDS "load" = some (some (.ref t_WORDS_31))) (lt_WORDS_31 : K.lookup t_WORDS_31 = some ⟨.type "tuple", od_WORDS_31, .seq #[.int 1 tk_WORDS_31_0, .int 1 tk_WORDS_31_1] nt_WORDS_31, sl_WORDS_31⟩) {t_WORDS_32 : Addr} {od_WORDS_32 : Option Addr} {nt_WORDS_32 : Nat} {sl_WORDS_32 : Array (Option Value)} {tk_WORDS_32_0 : Tok} {tk_WORDS_32_1 : Tok} (e_WORDS_32 : PySem.W.nsIn K A_WORDS "setvalue" = some (some (.ref t_WORDS_32))) (lt_WORDS_32 : K.lookup t_WORDS_32 = some ⟨.type "tuple", od_WORDS_32, .seq #[.int 2 tk_WORDS_32_0, .int 0 tk_WORDS_32_1] nt_WORDS_32, sl_WORDS_32⟩) {t_WORDS_33 : Addr} {od_WORDS_33 : Option Addr} {nt_WORDS_33 : Nat} {sl_WORDS_33 : Array (Option Value)} {tk_WORDS_33_0 : Tok} {tk_WORDS_33_1 : Tok} (e_WORDS_33 : PySem.W.nsIn K A_WORDS "save" = some (some (.ref t_WORDS_33))) (lt_WORDS_33 : K.lookup t_WORDS_33 = some ⟨.type "tuple", od_WORDS_33, .seq #[.int 2 tk_WORDS_33_0, .int 0 tk_WORDS_33_1] nt_WORDS_33, sl_WORDS_33⟩) {t_WORDS_34 : Addr} {od_WORDS_34 : Option Addr} {nt_WORDS_34 : Nat} {sl_WORDS_34 : Array (Option Value)} {tk_WORDS_34_0 : Tok} {tk_WORDS_34_1 : Tok} (e_WORDS_34 : PySem.W.nsIn K A_WORDS "get" = some (some (.ref t_WORDS_34))) (lt_WORDS_34 : K.lookup t_WORDS_34 = some ⟨.type "tuple", od_WORDS_34, .seq #[.int 1 tk_WORDS_34_0, .int 1 tk_WORDS_34_1] nt_WORDS_34, sl_WORDS_34⟩) {t_WORDS_35 : Addr} {od_WORDS_35 : Option Addr} {nt_WORDS_35 : Nat} {sl_WORDS_35 : Array (Option Value)} {tk_WORDS_35_0 : Tok} {tk_WORDS_35_1 : Tok} (e_WORDS_35 : PySem.W.nsIn K A_WORDS "origin" = some (some (.ref t_WORDS_35))) (lt_WORDS_35 : K.lookup t_WORDS_35 = some ⟨.type "tuple", od_WORDS_35, .seq #[.int 1 tk_WORDS_35_0, .int 1 tk_WORDS_35_1] nt_WORDS_35, sl_WORDS_35⟩) {t_WORDS_36 : Addr} {od_WORDS_36 : Option Addr} {nt_WORDS_36 : Nat} {sl_WORDS_36 : Array (Option Value)} {tk_WORDS_36_0 : Tok} {tk_WORDS_36_1 : Tok} (e_WORDS_36 : PySem.W.nsIn K A_WORDS "move" = some (some (.ref t_WORDS_36))) (lt_WORDS_36 : K.lookup t_WORDS_36 = some ⟨.type "tuple", od_WORDS_36, .seq #[.int 2 tk_WORDS_36_0, .int 0 tk_WORDS_36_1] nt_WORDS_36, sl_WORDS_36⟩) {t_WORDS_37 : Addr} {od_WORDS_37 : Option Addr} {nt_WORDS_37 : Nat} {sl_WORDS_37 : Array (Option Value)} {tk_WORDS_37_0 : Tok} {tk_WORDS_37_1 : Tok} (e_WORDS_37 : PySem.W.nsIn K A_WORDS "set" = some (some (.ref t_WORDS_37))) (lt_WORDS_37 : K.lookup t_WORDS_37 = some ⟨.type "tuple", od_WORDS_37, .seq #[.int 2 tk_WORDS_37_0, .int 0 tk_WORDS_37_1] nt_WORDS_37, sl_WORDS_37⟩) {t_WORDS_38 : Addr} {od_WORDS_38 : Option Addr} {nt_WORDS_38 : Nat} {sl_WORDS_38 : Array (Option Value)} {tk_WORDS_38_0 : Tok} {tk_WORDS_38_1 : Tok} (e_WORDS_38 : PySem.W.nsIn K A_WORDS "align" = some (some (.ref t_WORDS_38))) (lt_WORDS_38 : K.lookup t_WORDS_38 = some ⟨.type "tuple", od_WORDS_38, .seq #[.int 2 tk_WORDS_38_0, .int 0 tk_WORDS_38_1] nt_WORDS_38, sl_WORDS_38⟩) {t_WORDS_39 : Addr} {od_WORDS_39 : Option Addr} {nt_WORDS_39 : Nat} {sl_WORDS_39 : Array (Option Value)} {tk_WORDS_39_0 : Tok} {tk_WORDS_39_1 : Tok} (e_WORDS_39 : PySem.W.nsIn K A_WORDS "between" = some (some (.ref t_WORDS_39))) (lt_WORDS_39 : K.lookup t_WORDS_39 = some ⟨.type "tuple", od_WORDS_39, .seq #[.int 0 tk_WORDS_39_0, .int 0 tk_WORDS_39_1] nt_WORDS_39, sl_WORDS_39⟩) {t_WORDS_40 : Addr} {od_WORDS_40 : Option Addr} {nt_WORDS_40 : Nat} {sl_WORDS_40 : Array (Option Value)} {tk_WORDS_40_0 : Tok} {tk_WORDS_40_1 : Tok} (e_WORDS_40 : PySem.W.nsIn K A_WORDS "call" = some (some (.ref t_WORDS_40))) (lt_WORDS_40 : K.lookup t_WORDS_40 = some ⟨.type "tuple", od_WORDS_40, .seq #[.int 0 tk_WORDS_40_0, .int 0 tk_WORDS_40_1] nt_WORDS_40, sl_WORDS_40⟩) {t_WORDS_41 : Addr} {od_WORDS_41 : Option Addr} {nt_WORDS_41 : Nat} {sl_WORDS_41 : Array (Option Value)} {tk_WORDS_41_0 : Tok} {tk_WORDS_41_1 : Tok} (e_WORDS_41 : PySem.W.nsIn K A_WORDS "repeat" = some (some (.ref t_WORDS_41))) (lt_WORDS_41 : K.lookup t_WORDS_41 = some ⟨.type "tuple", od_WORDS_41, .seq #[.int 1 tk_WORDS_41_0, .int 0 tk_WORDS_41_1] nt_WORDS_41, sl_WORDS_41⟩) (e_WORDS_42 : PySem.W.nsIn K A_WORDS "nothing" = some none) :
    ∃ fd : FuncData, (∀ (s : Shared) (v : Value), BindsTo s fd ⟨[v], []⟩ [("script", v)]) ∧ ∀ base : Heap, K.In base → base.Ns mainGlobals mg → FnOk l.prog w K mg base CX0 12 fa fd ["script"] (spLaw K) := by
  have e := hfa.symm.trans (PySem.W.mg_of X G a34)
  cases e
  have T : Txt K mg := ⟨PySem.W.mg_none_of X G z_all, PySem.W.mg_none_of X G z_bool, PySem.W.mg_none_of X G z_enumerate, PySem.W.mg_none_of X G z_int, PySem.W.mg_none_of X G z_isinstance, PySem.W.mg_none_of X G z_len, PySem.W.mg_none_of X G z_list, PySem.W.mg_none_of X G z_max, PySem.W.mg_none_of X G z_min, PySem.W.mg_none_of X G z_range, PySem.W.mg_none_of X G z_str, PySem.W.mg_none_of X G z_tuple, PySem.W.mg_none_of X G z_zip, ⟨_, PySem.W.mg_of X G g_LEAST_NUMBER, _, rfl⟩, ⟨_, PySem.W.mg_of X G g_MAIN, _, rfl⟩, ⟨_, PySem.W.mg_of X G g_MANY_NUMBERS, _, rfl⟩, ⟨_, PySem.W.mg_of X G g_MOST_CALLS, _, rfl⟩, ⟨_, PySem.W.mg_of X G g_MOST_ROUNDS, _, rfl⟩, ⟨_, PySem.W.mg_of X G g_MOST_STEPS, _, rfl⟩, ⟨_, PySem.W.mg_of X G g_MOST_VALUES, _, rfl⟩, ⟨_, _, fun_mk l0 c0 k0, PySem.W.mg_of X G a0⟩, ⟨_, _, fun_mk l1 c1 k1, PySem.W.mg_of X G a1⟩, ⟨_, _, fun_mk l2 c2 k2, PySem.W.mg_of X G a2⟩, ⟨_, _, fun_mk l3 c3 k3, PySem.W.mg_of X G a3⟩, ⟨_, _, fun_mk l4 c4 k4, PySem.W.mg_of X G a4⟩, ⟨_, _, fun_mk l5 c5 k5, PySem.W.mg_of X G a5⟩, ⟨_, _, fun_mk l6 c6 k6, PySem.W.mg_of X G a6⟩, ⟨_, _, fun_mk l7 c7 k7, PySem.W.mg_of X G a7⟩, ⟨_, _, fun_mk l8 c8 k8, PySem.W.mg_of X G a8⟩, ⟨_, _, fun_mk l9 c9 k9, PySem.W.mg_of X G a9⟩, ⟨_, _, fun_mk l10 c10 k10, PySem.W.mg_of X G a10⟩, ⟨_, _, fun_mk l11 c11 k11, PySem.W.mg_of X G a11⟩, ⟨_, _, fun_mk l12 c12 k12, PySem.W.mg_of X G a12⟩, ⟨_, _, fun_mk l13 c13 k13, PySem.W.mg_of X G a13⟩, ⟨_, _, fun_mk l14 c14 k14, PySem.W.mg_of X G a14⟩, ⟨_, _, fun_mk l15 c15 k15, PySem.W.mg_of X G a15⟩, ⟨_, _, fun_mk l16 c16 k16, PySem.W.mg_of X G a16⟩, ⟨_, _, fun_mk l17 c17 k17, PySem.W.mg_of X G a17⟩, ⟨_, _, fun_mk l18 c18 k18, PySem.W.mg_of X G a18⟩, ⟨_, _, fun_mk l19 c19 k19, PySem.W.mg_of X G a19⟩, ⟨_, _, fun_mk l20 c20 k20, PySem.W.mg_of X G a20⟩, ⟨_, _, fun_mk l21 c21 k21, PySem.W.mg_of X G a21⟩, ⟨_, _, fun_mk l22 c22 k22, PySem.W.mg_of X G a22⟩, ⟨_, _, fun_mk l23 c23 k23, PySem.W.mg_of X G a23⟩, ⟨_, _, fun_mk l24 c24 k24, PySem.W.mg_of X G a24⟩, ⟨_, _, fun_mk l25 c25 k25, PySem.W.mg_of X G a25⟩, ⟨_, _, fun_mk l26 c26 k26, PySem.W.mg_of X G a26⟩, ⟨_, _, fun_mk l27 c27 k27, PySem.W.mg_of X G a27⟩, ⟨_, _, fun_mk l28 c28 k28, PySem.W.mg_of X G a28⟩, ⟨_, _, fun_mk l29 c29 k29, PySem.W.mg_of X G a29⟩, ⟨_, _, fun_mk l30 c30 k30, PySem.W.mg_of X G a30⟩, ⟨_, _, fun_mk l31 c31 k31, PySem.W.mg_of X G a31⟩, ⟨_, _, fun_mk l32 c32 k32, PySem.W.mg_of X G a32⟩, ⟨_, _, fun_mk l33 c33 k33, PySem.W.mg_of X G a33⟩, ⟨_, _, fun_mk l34 c34 k34, PySem.W.mg_of X G a34⟩, (by rw [adr_of (PySem.W.mg_of X G g_FleuronError)]; exact PySem.W.mg_of X G g_FleuronError), (by rw [adr_of (PySem.W.mg_of X G g_FleuronError)]; exact ⟨sg_FleuronError, ty_FleuronError, rd_FleuronError, fc_FleuronError⟩), ⟨by rw [adr_of (PySem.W.mg_of X G g_NoTable)]; exact PySem.W.mg_of X G g_NoTable, by rw [adr_of (PySem.W.mg_of X G g_NoTable)]; exact ⟨⟨_, _, _, _, _, _, _, _, _, _, _, _, _, _, _, xL_NoTable, by rfl⟩, sa_NoTable, be_NoTable, ty_NoTable, kC_NoTable⟩, by rw [adr_of (PySem.W.mg_of X G g_NoTable)]; exact fn_NoTable, by rw [adr_of (PySem.W.mg_of X G g_NoTable)]; exact fm_NoTable, by rw [adr_of (PySem.W.mg_of X G g_NoTable)]; exact ⟨ga_NoTable, gg_NoTable, be_NoTable, hd_NoTable⟩, by rw [adr_of (PySem.W.mg_of X G g_NoTable)]; exact ⟨_, _, in_NoTable, tf_NoTable, fun_mk li_NoTable ci_NoTable ki_NoTable⟩⟩, (by rw [adr_of (PySem.W.mg_of X G g_NoTable)]; exact PySem.W.exm_ref be_NoTable hd_NoTable ty_NoTable ss_NoTable), (by rw [adr_of (PySem.W.mg_of X G g_CALLS)]; exact PySem.W.mg_of X G g_CALLS), (fun H => by rw [adr_of (PySem.W.mg_of X G g_CALLS)]; exact .inr ⟨_, _, _, t_CALLS, rfl, rfl, (show (2 : Nat) ≤ sizeLine by decide), .cons ⟨_, rfl⟩ (.cons ⟨_, rfl⟩ (.nil))⟩), (by rw [adr_of (PySem.W.mg_of X G g_JUMPS)]; exact PySem.W.mg_of X G g_JUMPS), (fun H => by rw [adr_of (PySem.W.mg_of X G g_JUMPS)]; exact .inr ⟨_, _, _, t_JUMPS, rfl, rfl, (show (2 : Nat) ≤ sizeLine by decide), .cons ⟨_, rfl⟩ (.cons ⟨_, rfl⟩ (.nil))⟩), ⟨e_Program_functions, e_Program_presets, ⟨_, #[], _, em_Program_functions, rfl, rfl, (show (0 : Nat) ≤ sizeLine by decide), .nil⟩, ⟨_, #[], _, em_Program_presets, rfl, rfl, (show (0 : Nat) ≤ sizeLine by decide), .nil⟩, ⟨by rw [adr_of (PySem.W.mg_of X G g_Program)]; exact PySem.W.mg_of X G g_Program, by rw [adr_of (PySem.W.mg_of X G g_Program)]; exact ⟨pg_Program, hd_Program, po_Program, sa_Program⟩, by rw [adr_of (PySem.W.mg_of X G g_Program)]; exact (List.forall_mem_cons.mpr ⟨na_Program_main, (List.forall_mem_cons.mpr ⟨na_Program_functions, (List.forall_mem_cons.mpr ⟨na_Program_presets, (List.forall_mem_cons.mpr ⟨na_Program_size, (List.forall_mem_nil _)⟩)⟩)⟩)⟩), by rw [adr_of (PySem.W.mg_of X G g_Program)]; exact ⟨fI_Program, _, ⟨mk_Program, in_Program, fn_Program, kc_Program⟩, ⟨⟨_, _, _, _, _, _, _, _, _, _, rfl, li_Program, ci_Program, .inl ⟨rfl, rfl⟩, .inr ⟨D_Program, rfl, (List.forall_mem_cons.mpr ⟨⟨_, kd_Program_functions, rfl⟩, (List.forall_mem_cons.mpr ⟨⟨_, kd_Program_presets, rfl⟩, (List.forall_mem_cons.mpr ⟨⟨_, kd_Program_size, ⟨_, rfl⟩⟩, (List.forall_mem_nil _)⟩)⟩)⟩)⟩⟩, ki_Program⟩⟩⟩⟩⟩
  have I : WoK K w mg := ⟨(by rw [adr_of (PySem.W.mg_of X G g_WORDS)]; exact PySem.W.mg_of X G g_WORDS), (by rw [adr_of (PySem.W.mg_of X G g_WORDS)]; exact ⟨_, _, l_WORDS, kl_WORDS, sm_WORDS⟩), (by rw [adr_of (PySem.W.mg_of X G g_WORDS)]; exact (List.forall_mem_cons.mpr ⟨⟨_, e_WORDS_0, fun _ h => by subst h; exact ⟨_, rfl, fun H => .inr ⟨_, _, _, lt_WORDS_0, rfl, rfl, (show (2 : Nat) ≤ sizeLine by decide), .cons ⟨_, rfl⟩ (.cons ⟨_, rfl⟩ (.nil))⟩⟩⟩, (List.forall_mem_cons.mpr ⟨⟨_, e_WORDS_1, fun _ h => by subst h; exact ⟨_, rfl, fun H => .inr ⟨_, _, _, lt_WORDS_1, rfl, rfl, (show (2 : Nat) ≤ sizeLine by decide), .cons ⟨_, rfl⟩ (.cons ⟨_, rfl⟩ (.nil))⟩⟩⟩, (List.forall_mem_cons.mpr ⟨⟨_, e_WORDS_2, fun _ h => by subst h; rfl⟩, (List.forall_mem_cons.mpr ⟨⟨_, e_WORDS_3, fun _ h => by subst h; exact ⟨_, rfl, fun H => .inr ⟨_, _, _, lt_WORDS_3, rfl, rfl, (show (2 : Nat) ≤ sizeLine by decide), .cons ⟨_, rfl⟩ (.cons ⟨_, rfl⟩ (.nil))⟩⟩⟩, (List.forall_mem_cons.mpr ⟨⟨_, e_WORDS_4, fun _ h => by subst h; exact ⟨_, rfl, fun H => .inr ⟨_, _, _, lt_WORDS_4, rfl, rfl, (show (2 : Nat) ≤ sizeLine by decide), .cons ⟨_, rfl⟩ (.cons ⟨_, rfl⟩ (.nil))⟩⟩⟩, (List.forall_mem_cons.mpr ⟨⟨_, e_WORDS_5, fun _ h => by subst h; rfl⟩, (List.forall_mem_cons.mpr ⟨⟨_, e_WORDS_6, fun _ h => by subst h; rfl⟩, (List.forall_mem_cons.mpr ⟨⟨_, e_WORDS_7, fun _ h => by subst h; exact ⟨_, rfl, fun H => .inr ⟨_, _, _, lt_WORDS_7, rfl, rfl, (show (2 : Nat) ≤ sizeLine by decide), .cons ⟨_, rfl⟩ (.cons ⟨_, rfl⟩ (.nil))⟩⟩⟩, (List.forall_mem_cons.mpr ⟨⟨_, e_WORDS_8, fun _ h => by subst h; exact ⟨_, rfl, fun H => .inr ⟨_, _, _, lt_WORDS_8, rfl, rfl, (show (2 : Nat) ≤ sizeLine by decide), .cons ⟨_, rfl⟩ (.cons ⟨_, rfl⟩ (.nil))⟩⟩⟩, (List.forall_mem_cons.mpr ⟨⟨_, e_WORDS_9, fun _ h => by subst h; exact ⟨_, rfl, fun H => .inr ⟨_, _, _, lt_WORDS_9, rfl, rfl, (show (2 : Nat) ≤ sizeLine by decide), .cons ⟨_, rfl⟩ (.cons ⟨_, rfl⟩ (.nil))⟩⟩⟩, (List.forall_mem_cons.mpr ⟨⟨_, e_WORDS_10, fun _ h => by subst h; exact ⟨_, rfl, fun H => .inr ⟨_, _, _, lt_WORDS_10, rfl, rfl, (show (2 : Nat) ≤ sizeLine by decide), .cons ⟨_, rfl⟩ (.cons ⟨_, rfl⟩ (.nil))⟩⟩⟩, (List.forall_mem_cons.mpr ⟨⟨_, e_WORDS_11, fun _ h => by subst h; exact ⟨_, rfl, fun H => .inr ⟨_, _, _, lt_WORDS_11, rfl, rfl, (show (2 : Nat) ≤ sizeLine by decide), .cons ⟨_, rfl⟩ (.cons ⟨_, rfl⟩ (.nil))⟩⟩⟩, (List.forall_mem_cons.mpr ⟨⟨_, e_WORDS_12, fun _ h => by subst h; exact ⟨_, rfl, fun H => .inr ⟨_, _, _, lt_WORDS_12, rfl, rfl, (show (2 : Nat) ≤ sizeLine by decide), .cons ⟨_, rfl⟩ (.cons ⟨_, rfl⟩ (.nil))⟩⟩⟩, (List.forall_mem_cons.mpr ⟨⟨_, e_WORDS_13, fun _ h => by subst h; exact ⟨_, rfl, fun H => .inr ⟨_, _, _, lt_WORDS_13, rfl, rfl, (show (2 : Nat) ≤ sizeLine by decide), .cons ⟨_, rfl⟩ (.cons ⟨_, rfl⟩ (.nil))⟩⟩⟩, (List.forall_mem_cons.mpr ⟨⟨_, e_WORDS_14, fun _ h => by subst h; exact ⟨_, rfl, fun H => .inr ⟨_, _, _, lt_WORDS_14, rfl, rfl, (show (2 : Nat) ≤ sizeLine by decide), .cons ⟨_, rfl⟩ (.cons ⟨_, rfl⟩ (.nil))⟩⟩⟩, (List.forall_mem_cons.mpr ⟨⟨_, e_WORDS_15, fun _ h => by subst h; exact ⟨_, rfl, fun H => .inr ⟨_, _, _, lt_WORDS_15, rfl, rfl, (show (2 : Nat) ≤ sizeLine by decide), .cons ⟨_, rfl⟩ (.cons ⟨_, rfl⟩ (.nil))⟩⟩⟩, (List.forall_mem_cons.mpr ⟨⟨_, e_WORDS_16, fun _ h => by subst h; exact ⟨_, rfl, fun H => .inr ⟨_, _, _, lt_WORDS_16, rfl, rfl, (show (2 : Nat) ≤ sizeLine by decide), .cons ⟨_, rfl⟩ (.cons ⟨_, rfl⟩ (.nil))⟩⟩⟩, (List.forall_mem_cons.mpr ⟨⟨_, e_WORDS_17, fun _ h => by subst h; exact ⟨_, rfl, fun H => .inr ⟨_, _, _, lt_WORDS_17, rfl, rfl, (show (2 : Nat) ≤ sizeLine by decide), .cons ⟨_, rfl⟩ (.cons ⟨_, rfl⟩ (.nil))⟩⟩⟩, (List.forall_mem_cons.mpr ⟨⟨_, e_WORDS_18, fun _ h => by subst h; exact ⟨_, rfl, fun H => .inr ⟨_, _, _, lt_WORDS_18, rfl, rfl, (show (2 : Nat) ≤ sizeLine by decide), .cons ⟨_, rfl⟩ (.cons ⟨_, rfl⟩ (.nil))⟩⟩⟩, (List.forall_mem_cons.mpr ⟨⟨_, e_WORDS_19, fun _ h => by subst h; exact ⟨_, rfl, fun H => .inr ⟨_, _, _, lt_WORDS_19, rfl, rfl, (show (2 : Nat) ≤ sizeLine by decide), .cons ⟨_, rfl⟩ (.cons ⟨_, rfl⟩ (.nil))⟩⟩⟩, (List.forall_mem_cons.mpr ⟨⟨_, e_WORDS_20, fun _ h => by subst h; exact ⟨_, rfl, fun H => .inr ⟨_, _, _, lt_WORDS_20, rfl, rfl, (show (2 : Nat) ≤ sizeLine by decide), .cons ⟨_, rfl⟩ (.cons ⟨_, rfl⟩ (.nil))⟩⟩⟩, (List.forall_mem_cons.mpr ⟨⟨_, e_WORDS_21, fun _ h => by subst h; exact ⟨_, rfl, fun H => .inr ⟨_, _, _, lt_WORDS_21, rfl, rfl, (show (2 : Nat) ≤ sizeLine by decide), .cons ⟨_, rfl⟩ (.cons ⟨_, rfl⟩ (.nil))⟩⟩⟩, (List.forall_mem_cons.mpr ⟨⟨_, e_WORDS_22, fun _ h => by subst h; exact ⟨_, rfl, fun H => .inr ⟨_, _, _, lt_WORDS_22, rfl, rfl, (show (2 : Nat) ≤ sizeLine by decide), .cons ⟨_, rfl⟩ (.cons ⟨_, rfl⟩ (.nil))⟩⟩⟩, (List.forall_mem_cons.mpr ⟨⟨_, e_WORDS_23, fun _ h => by subst h; exact ⟨_, rfl, fun H => .inr ⟨_, _, _, lt_WORDS_23, rfl, rfl, (show (2 : Nat) ≤ sizeLine by decide), .cons ⟨_, rfl⟩ (.cons ⟨_, rfl⟩ (.nil))⟩⟩⟩, (List.forall_mem_cons.mpr ⟨⟨_, e_WORDS_24, fun _ h => by subst h; exact ⟨_, rfl, fun H => .inr ⟨_, _, _, lt_WORDS_24, rfl, rfl, (show (2 : Nat) ≤ sizeLine by decide), .cons ⟨_, rfl⟩ (.cons ⟨_, rfl⟩ (.nil))⟩⟩⟩, (List.forall_mem_cons.mpr ⟨⟨_, e_WORDS_25, fun _ h => by subst h; exact ⟨_, rfl, fun H => .inr ⟨_, _, _, lt_WORDS_25, rfl, rfl, (show (2 : Nat) ≤ sizeLine by decide), .cons ⟨_, rfl⟩ (.cons ⟨_, rfl⟩ (.nil))⟩⟩⟩, (List.forall_mem_cons.mpr ⟨⟨_, e_WORDS_26, fun _ h => by subst h; exact ⟨_, rfl, fun H => .inr ⟨_, _, _, lt_WORDS_26, rfl, rfl, (show (2 : Nat) ≤ sizeLine by decide), .cons ⟨_, rfl⟩ (.cons ⟨_, rfl⟩ (.nil))⟩⟩⟩, (List.forall_mem_cons.mpr ⟨⟨_, e_WORDS_27, fun _ h => by subst h; exact ⟨_, rfl, fun H => .inr ⟨_, _, _, lt_WORDS_27, rfl, rfl, (show (2 : Nat) ≤ sizeLine by decide), .cons ⟨_, rfl⟩ (.cons ⟨_, rfl⟩ (.nil))⟩⟩⟩, (List.forall_mem_cons.mpr ⟨⟨_, e_WORDS_28, fun _ h => by subst h; exact ⟨_, rfl, fun H => .inr ⟨_, _, _, lt_WORDS_28, rfl, rfl, (show (2 : Nat) ≤ sizeLine by decide), .cons ⟨_, rfl⟩ (.cons ⟨_, rfl⟩ (.nil))⟩⟩⟩, (List.forall_mem_cons.mpr ⟨⟨_, e_WORDS_29, fun _ h => by subst h; exact ⟨_, rfl, fun H => .inr ⟨_, _, _, lt_WORDS_29, rfl, rfl, (show (2 : Nat) ≤ sizeLine by decide), .cons ⟨_, rfl⟩ (.cons ⟨_, rfl⟩ (.nil))⟩⟩⟩, (List.forall_mem_cons.mpr ⟨⟨_, e_WORDS_30, fun _ h => by subst h; exact ⟨_, rfl, fun H => .inr ⟨_, _, _, lt_WORDS_30, rfl, rfl, (show (2 : Nat) ≤ sizeLine by decide), .cons ⟨_, rfl⟩ (.cons ⟨_, rfl⟩ (.nil))⟩⟩⟩, (List.forall_mem_cons.mpr ⟨⟨_, e_WORDS_31, fun _ h => by subst h; exact ⟨_, rfl, fun H => .inr ⟨_, _, _, lt_WORDS_31, rfl, rfl, (show (2 : Nat) ≤ sizeLine by decide), .cons ⟨_, rfl⟩ (.cons ⟨_, rfl⟩ (.nil))⟩⟩⟩, (List.forall_mem_cons.mpr ⟨⟨_, e_WORDS_32, fun _ h => by subst h; exact ⟨_, rfl, fun H => .inr ⟨_, _, _, lt_WORDS_32, rfl, rfl, (show (2 : Nat) ≤ sizeLine by decide), .cons ⟨_, rfl⟩ (.cons ⟨_, rfl⟩ (.nil))⟩⟩⟩, (List.forall_mem_cons.mpr ⟨⟨_, e_WORDS_33, fun _ h => by subst h; exact ⟨_, rfl, fun H => .inr ⟨_, _, _, lt_WORDS_33, rfl, rfl, (show (2 : Nat) ≤ sizeLine by decide), .cons ⟨_, rfl⟩ (.cons ⟨_, rfl⟩ (.nil))⟩⟩⟩, (List.forall_mem_cons.mpr ⟨⟨_, e_WORDS_34, fun _ h => by subst h; exact ⟨_, rfl, fun H => .inr ⟨_, _, _, lt_WORDS_34, rfl, rfl, (show (2 : Nat) ≤ sizeLine by decide), .cons ⟨_, rfl⟩ (.cons ⟨_, rfl⟩ (.nil))⟩⟩⟩, (List.forall_mem_cons.mpr ⟨⟨_, e_WORDS_35, fun _ h => by subst h; exact ⟨_, rfl, fun H => .inr ⟨_, _, _, lt_WORDS_35, rfl, rfl, (show (2 : Nat) ≤ sizeLine by decide), .cons ⟨_, rfl⟩ (.cons ⟨_, rfl⟩ (.nil))⟩⟩⟩, (List.forall_mem_cons.mpr ⟨⟨_, e_WORDS_36, fun _ h => by subst h; exact ⟨_, rfl, fun H => .inr ⟨_, _, _, lt_WORDS_36, rfl, rfl, (show (2 : Nat) ≤ sizeLine by decide), .cons ⟨_, rfl⟩ (.cons ⟨_, rfl⟩ (.nil))⟩⟩⟩, (List.forall_mem_cons.mpr ⟨⟨_, e_WORDS_37, fun _ h => by subst h; exact ⟨_, rfl, fun H => .inr ⟨_, _, _, lt_WORDS_37, rfl, rfl, (show (2 : Nat) ≤ sizeLine by decide), .cons ⟨_, rfl⟩ (.cons ⟨_, rfl⟩ (.nil))⟩⟩⟩, (List.forall_mem_cons.mpr ⟨⟨_, e_WORDS_38, fun _ h => by subst h; exact ⟨_, rfl, fun H => .inr ⟨_, _, _, lt_WORDS_38, rfl, rfl, (show (2 : Nat) ≤ sizeLine by decide), .cons ⟨_, rfl⟩ (.cons ⟨_, rfl⟩ (.nil))⟩⟩⟩, (List.forall_mem_cons.mpr ⟨⟨_, e_WORDS_39, fun _ h => by subst h; exact ⟨_, rfl, fun H => .inr ⟨_, _, _, lt_WORDS_39, rfl, rfl, (show (2 : Nat) ≤ sizeLine by decide), .cons ⟨_, rfl⟩ (.cons ⟨_, rfl⟩ (.nil))⟩⟩⟩, (List.forall_mem_cons.mpr ⟨⟨_, e_WORDS_40, fun _ h => by subst h; exact ⟨_, rfl, fun H => .inr ⟨_, _, _, lt_WORDS_40, rfl, rfl, (show (2 : Nat) ≤ sizeLine by decide), .cons ⟨_, rfl⟩ (.cons ⟨_, rfl⟩ (.nil))⟩⟩⟩, (List.forall_mem_cons.mpr ⟨⟨_, e_WORDS_41, fun _ h => by subst h; exact ⟨_, rfl, fun H => .inr ⟨_, _, _, lt_WORDS_41, rfl, rfl, (show (2 : Nat) ≤ sizeLine by decide), .cons ⟨_, rfl⟩ (.cons ⟨_, rfl⟩ (.nil))⟩⟩⟩, (List.forall_mem_cons.mpr ⟨⟨_, e_WORDS_42, fun _ h => by subst h; rfl⟩, (List.forall_mem_nil _)⟩)⟩)⟩)⟩)⟩)⟩)⟩)⟩)⟩)⟩)⟩)⟩)⟩)⟩)⟩)⟩)⟩)⟩)⟩)⟩)⟩)⟩)⟩)⟩)⟩)⟩)⟩)⟩)⟩)⟩)⟩)⟩)⟩)⟩)⟩)⟩)⟩)⟩)⟩)⟩)⟩)⟩)⟩))⟩
  exact ⟨PySem.W.fnOf "law" "law" (defArgs s_law) (defBody s_law) (defScope s_law) .none kV34 dc34 pm34 an34 cd34 ct34, fun s v => .of_eq rfl, fun base _ _ => ok_law T I (fun_mk l34 c34 k34)⟩
end K50
open PySem PySem.W PyProof.Rows
set_option maxHeartbeats 0 in
theorem PySem.Challenge.cw_fleuron_k50_whole_least_tables_holds : PySem.Challenge.rw_fleuron_k50_whole_least_tables.Holds := by
  w_on; o_law; k_head; (case hw => w_witness2)
  k_fill
  refine L2.walk_of (l := PySem.Challenge.rw_fleuron_k50_whole_least_tables) (n := 63) (k := 12) (x := "script") (CX := fun _ => L2.CX0) (sp := fun w => K50.spLaw _) rfl (by decide) rfl ⟨rfl, by decide, by decide⟩ (fun w h Y => PySem.W.kIn_of Y) ?F (fun _ _ a ns hl _ hS => ⟨a, ns, rfl, hS, hl, fun _ => rfl⟩) (fun _ _ _ _ _ h => h)
  case F =>
    intro w mg fa h KX G hmg
    refine' K50.all_mk KX G hmg ?a0 ?l0 ?c0 ?k0 ?a1 ?l1 ?c1 ?k1 ?a2 ?l2 ?c2 ?k2 ?a3 ?l3 ?c3 ?k3 ?a4 ?l4 ?c4 ?k4 ?a5 ?l5 ?c5 ?k5 ?a6 ?l6 ?c6 ?k6 ?a7 ?l7 ?c7 ?k7 ?a8 ?l8 ?c8 ?k8 ?a9 ?l9 ?c9 ?k9 ?a10 ?l10 ?c10 ?k10 ?a11 ?l11 ?c11 ?k11 ?a12 ?l12 ?c12 ?k12 ?a13 ?l13 ?c13 ?k13 ?a14 ?l14 ?c14 ?k14 ?a15 ?l15 ?c15 ?k15 ?a16 ?l16 ?c16 ?k16 ?a17 ?l17 ?c17 ?k17 ?a18 ?l18 ?c18 ?k18 ?a19 ?l19 ?c19 ?k19 ?a20 ?l20 ?c20 ?k20 ?a21 ?l21 ?c21 ?k21 ?a22 ?l22 ?c22 ?k22 ?a23 ?l23 ?c23 ?k23 ?a24 ?l24 ?c24 ?k24 ?a25 ?l25 ?c25 ?k25 ?a26 ?l26 ?c26 ?k26 ?a27 ?l27 ?c27 ?k27 ?a28 ?l28 ?c28 ?k28 ?a29 ?l29 ?c29 ?k29 ?a30 ?l30 ?c30 ?k30 ?a31 ?l31 ?c31 ?k31 ?a32 ?l32 ?c32 ?k32 ?a33 ?l33 ?c33 ?k33 ?a34 ?l34 ?c34 ?k34 ?z_all ?z_bool ?z_enumerate ?z_int ?z_isinstance ?z_len ?z_list ?z_max ?z_min ?z_range ?z_str ?z_tuple ?z_zip ?g_LEAST_NUMBER ?g_MAIN ?g_MANY_NUMBERS ?g_MOST_CALLS ?g_MOST_ROUNDS ?g_MOST_STEPS ?g_MOST_VALUES ?g_FleuronError ?sg_FleuronError ?ty_FleuronError ?rd_FleuronError ?fc_FleuronError ?be_FleuronError ?hd_FleuronError ?g_NoTable ?xL_NoTable ?sa_NoTable ?be_NoTable ?ty_NoTable ?kC_NoTable ?hd_NoTable ?fn_NoTable ?fm_NoTable ?ga_NoTable ?gg_NoTable ?in_NoTable ?tf_NoTable ?li_NoTable ?ci_NoTable ?ki_NoTable ?ss_NoTable ?g_CALLS ?t_CALLS ?g_JUMPS ?t_JUMPS ?g_Program ?pg_Program ?hd_Program ?po_Program ?sa_Program ?mk_Program ?in_Program ?fn_Program ?kc_Program ?li_Program ?ci_Program ?ki_Program ?kd_Program_functions ?em_Program_functions ?kd_Program_presets ?em_Program_presets ?kd_Program_size ?na_Program_main ?na_Program_functions ?na_Program_presets ?na_Program_size ?g_WORDS ?l_WORDS ?kl_WORDS ?sm_WORDS ?e_WORDS_0 ?lt_WORDS_0 ?e_WORDS_1 ?lt_WORDS_1 ?e_WORDS_2 ?e_WORDS_3 ?lt_WORDS_3 ?e_WORDS_4 ?lt_WORDS_4 ?e_WORDS_5 ?e_WORDS_6 ?e_WORDS_7 ?lt_WORDS_7 ?e_WORDS_8 ?lt_WORDS_8 ?e_WORDS_9 ?lt_WORDS_9 ?e_WORDS_10 ?lt_WORDS_10 ?e_WORDS_11 ?lt_WORDS_11 ?e_WORDS_12 ?lt_WORDS_12 ?e_WORDS_13 ?lt_WORDS_13 ?e_WORDS_14 ?lt_WORDS_14 ?e_WORDS_15 ?lt_WORDS_15 ?e_WORDS_16 ?lt_WORDS_16 ?e_WORDS_17 ?lt_WORDS_17 ?e_WORDS_18 ?lt_WORDS_18 ?e_WORDS_19 ?lt_WORDS_19 ?e_WORDS_20 ?lt_WORDS_20 ?e_WORDS_21 ?lt_WORDS_21 ?e_WORDS_22 ?lt_WORDS_22 ?e_WORDS_23 ?lt_WORDS_23 ?e_WORDS_24 ?lt_WORDS_24 ?e_WORDS_25 ?lt_WORDS_25 ?e_WORDS_26 ?lt_WORDS_26 ?e_WORDS_27 ?lt_WORDS_27 ?e_WORDS_28 ?lt_WORDS_28 ?e_WORDS_29 ?lt_WORDS_29 ?e_WORDS_30 ?lt_WORDS_30 ?e_WORDS_31 ?lt_WORDS_31 ?e_WORDS_32 ?lt_WORDS_32 ?e_WORDS_33 ?lt_WORDS_33 ?e_WORDS_34 ?lt_WORDS_34 ?e_WORDS_35 ?lt_WORDS_35 ?e_WORDS_36 ?lt_WORDS_36 ?e_WORDS_37 ?lt_WORDS_37 ?e_WORDS_38 ?lt_WORDS_38 ?e_WORDS_39 ?lt_WORDS_39 ?e_WORDS_40 ?lt_WORDS_40 ?e_WORDS_41 ?lt_WORDS_41 ?e_WORDS_42
    (case a0 => k_is); (case l0 => k_is); (case c0 => k_is); (case k0 => k_is); (case a1 => k_is); (case l1 => k_is); (case c1 => k_is); (case k1 => k_is); (case a2 => k_is); (case l2 => k_is); (case c2 => k_is); (case k2 => k_is); (case a3 => k_is); (case l3 => k_is); (case c3 => k_is); (case k3 => k_is); (case a4 => k_is); (case l4 => k_is); (case c4 => k_is); (case k4 => k_is); (case a5 => k_is); (case l5 => k_is); (case c5 => k_is); (case k5 => k_is); (case a6 => k_is); (case l6 => k_is); (case c6 => k_is); (case k6 => k_is); (case a7 => k_is); (case l7 => k_is); (case c7 => k_is); (case k7 => k_is); (case a8 => k_is); (case l8 => k_is); (case c8 => k_is); (case k8 => k_is); (case a9 => k_is); (case l9 => k_is); (case c9 => k_is); (case k9 => k_is); (case a10 => k_is); (case l10 => k_is); (case c10 => k_is); (case k10 => k_is); (case a11 => k_is); (case l11 => k_is); (case c11 => k_is); (case k11 => k_is); (case a12 => k_is); (case l12 => k_is); (case c12 => k_is); (case k12 => k_is); (case a13 => k_is); (case l13 => k_is); (case c13 => k_is); (case k13 => k_is); (case a14 => k_is); (case l14 => k_is); (case c14 => k_is); (case k14 => k_is); (case a15 => k_is); (case l15 => k_is); (case c15 => k_is); (case k15 => k_is); (case a16 => k_is); (case l16 => k_is); (case c16 => k_is); (case k16 => k_is); (case a17 => k_is); (case l17 => k_is); (case c17 => k_is); (case k17 => k_is); (case a18 => k_is); (case l18 => k_is); (case c18 => k_is); (case k18 => k_is); (case a19 => k_is); (case l19 => k_is); (case c19 => k_is); (case k19 => k_is); (case a20 => k_is); (case l20 => k_is); (case c20 => k_is); (case k20 => k_is); (case a21 => k_is); (case l21 => k_is); (case c21 => k_is); (case k21 => k_is); (case a22 => k_is); (case l22 => k_is); (case c22 => k_is); (case k22 => k_is); (case a23 => k_is); (case l23 => k_is); (case c23 => k_is); (case k23 => k_is); (case a24 => k_is); (case l24 => k_is); (case c24 => k_is); (case k24 => k_is); (case a25 => k_is); (case l25 => k_is); (case c25 => k_is); (case k25 => k_is); (case a26 => k_is); (case l26 => k_is); (case c26 => k_is); (case k26 => k_is); (case a27 => k_is); (case l27 => k_is); (case c27 => k_is); (case k27 => k_is); (case a28 => k_is); (case l28 => k_is); (case c28 => k_is); (case k28 => k_is); (case a29 => k_is); (case l29 => k_is); (case c29 => k_is); (case k29 => k_is); (case a30 => k_is); (case l30 => k_is); (case c30 => k_is); (case k30 => k_is); (case a31 => k_is); (case l31 => k_is); (case c31 => k_is); (case k31 => k_is); (case a32 => k_is); (case l32 => k_is); (case c32 => k_is); (case k32 => k_is); (case a33 => k_is); (case l33 => k_is); (case c33 => k_is); (case k33 => k_is); (case a34 => k_is); (case l34 => k_is); (case c34 => k_is); (case k34 => k_is); (case z_all => k_is); (case z_bool => k_is); (case z_enumerate => k_is); (case z_int => k_is); (case z_isinstance => k_is); (case z_len => k_is); (case z_list => k_is); (case z_max => k_is); (case z_min => k_is); (case z_range => k_is); (case z_str => k_is); (case z_tuple => k_is); (case z_zip => k_is); (case g_LEAST_NUMBER => k_is); (case g_MAIN => k_is); (case g_MANY_NUMBERS => k_is); (case g_MOST_CALLS => k_is); (case g_MOST_ROUNDS => k_is); (case g_MOST_STEPS => k_is); (case g_MOST_VALUES => k_is); (case g_FleuronError => k_is); (case sg_FleuronError => k_is); (case ty_FleuronError => k_is); (case rd_FleuronError => k_is); (case fc_FleuronError => k_is); (case be_FleuronError => k_is); (case hd_FleuronError => k_is); (case g_NoTable => k_is); (case xL_NoTable => k_is); (case sa_NoTable => k_is); (case be_NoTable => k_is); (case ty_NoTable => k_is); (case kC_NoTable => k_is); (case hd_NoTable => k_is); (case fn_NoTable => k_is); (case fm_NoTable => k_is); (case ga_NoTable => k_is); (case gg_NoTable => k_is); (case in_NoTable => k_is); (case tf_NoTable => k_is); (case li_NoTable => k_is); (case ci_NoTable => k_is); (case ki_NoTable => k_is); (case ss_NoTable => k_is); (case g_CALLS => k_is); (case t_CALLS => k_is); (case g_JUMPS => k_is); (case t_JUMPS => k_is); (case g_Program => k_is); (case pg_Program => k_is); (case hd_Program => k_is); (case po_Program => k_is); (case sa_Program => k_is); (case mk_Program => k_is); (case in_Program => k_is); (case fn_Program => k_is); (case kc_Program => k_is); (case li_Program => k_is); (case ci_Program => k_is); (case ki_Program => k_is); (case kd_Program_functions => k_is); (case em_Program_functions => k_is); (case kd_Program_presets => k_is); (case em_Program_presets => k_is); (case kd_Program_size => k_is); (case na_Program_main => k_is); (case na_Program_functions => k_is); (case na_Program_presets => k_is); (case na_Program_size => k_is); (case g_WORDS => k_is); (case l_WORDS => k_is); (case kl_WORDS => k_keys); (case sm_WORDS => rfl); (case e_WORDS_0 => k_is); (case lt_WORDS_0 => k_is); (case e_WORDS_1 => k_is); (case lt_WORDS_1 => k_is); (case e_WORDS_2 => k_is); (case e_WORDS_3 => k_is); (case lt_WORDS_3 => k_is); (case e_WORDS_4 => k_is); (case lt_WORDS_4 => k_is); (case e_WORDS_5 => k_is); (case e_WORDS_6 => k_is); (case e_WORDS_7 => k_is); (case lt_WORDS_7 => k_is); (case e_WORDS_8 => k_is); (case lt_WORDS_8 => k_is); (case e_WORDS_9 => k_is); (case lt_WORDS_9 => k_is); (case e_WORDS_10 => k_is); (case lt_WORDS_10 => k_is); (case e_WORDS_11 => k_is); (case lt_WORDS_11 => k_is); (case e_WORDS_12 => k_is); (case lt_WORDS_12 => k_is); (case e_WORDS_13 => k_is); (case lt_WORDS_13 => k_is); (case e_WORDS_14 => k_is); (case lt_WORDS_14 => k_is); (case e_WORDS_15 => k_is); (case lt_WORDS_15 => k_is); (case e_WORDS_16 => k_is); (case lt_WORDS_16 => k_is); (case e_WORDS_17 => k_is); (case lt_WORDS_17 => k_is); (case e_WORDS_18 => k_is); (case lt_WORDS_18 => k_is); (case e_WORDS_19 => k_is); (case lt_WORDS_19 => k_is); (case e_WORDS_20 => k_is); (case lt_WORDS_20 => k_is); (case e_WORDS_21 => k_is); (case lt_WORDS_21 => k_is); (case e_WORDS_22 => k_is); (case lt_WORDS_22 => k_is); (case e_WORDS_23 => k_is); (case lt_WORDS_23 => k_is); (case e_WORDS_24 => k_is); (case lt_WORDS_24 => k_is); (case e_WORDS_25 => k_is); (case lt_WORDS_25 => k_is); (case e_WORDS_26 => k_is); (case lt_WORDS_26 => k_is); (case e_WORDS_27 => k_is); (case lt_WORDS_27 => k_is); (case e_WORDS_28 => k_is); (case lt_WORDS_28 => k_is); (case e_WORDS_29 => k_is); (case lt_WORDS_29 => k_is); (case e_WORDS_30 => k_is); (case lt_WORDS_30 => k_is); (case e_WORDS_31 => k_is); (case lt_WORDS_31 => k_is); (case e_WORDS_32 => k_is); (case lt_WORDS_32 => k_is); (case e_WORDS_33 => k_is); (case lt_WORDS_33 => k_is); (case e_WORDS_34 => k_is); (case lt_WORDS_34 => k_is); (case e_WORDS_35 => k_is); (case lt_WORDS_35 => k_is); (case e_WORDS_36 => k_is); (case lt_WORDS_36 => k_is); (case e_WORDS_37 => k_is); (case lt_WORDS_37 => k_is); (case e_WORDS_38 => k_is); (case lt_WORDS_38 => k_is); (case e_WORDS_39 => k_is); (case lt_WORDS_39 => k_is); (case e_WORDS_40 => k_is); (case lt_WORDS_40 => k_is); (case e_WORDS_41 => k_is); (case lt_WORDS_41 => k_is); (case e_WORDS_42 => k_is)

