import PyProof.Rows.All
import Wide.All
import OpenK.AllK
import Wide.FinOn
import HandS.ForMost
import HandS.Wide
import HandS.IsInst
import HandS.Gcd
import HandS.Defaults
import HandS.Comp
import HandS.Zip
import HandS.Iter
import HandS.Style
import PyProof.ReprRoads
import PyProof.ReprLen
import HandS.Rev
import HandS.ForExc
import HandS.ExcInit
import HandS.ExcIs
import HandS.TryMany
import HandS.TryOnly
import HandS.MakeKwOnly
import HandS.Flow
import HandS.More
import HandS.Dict
import HandS.Walk
import HandS.TupSets
import PyProof.FactsAll.set_2
import KE.SortData
import HandS.Deep
import PyProof.EqAt
import PyProof.P3In
import HandS.DictComp
import HandS.FStr
import HandS.RevRange
import PySem.Challenge.RW_fleuron_k60_pictures_of_pixels
set_option Elab.async false
set_option linter.all false
set_option maxRecDepth 100000
set_option maxHeartbeats 4000000
namespace Fl
open PySem PySem.Spec PyProof.Rows L2

/-! ### defs of the text, and what they promise -/
structure DefIn (K : PySem.W.Frag) (mg : Str → Option Value) (x : Str) (st : Stmt) : Prop where
  ex : ∃ (f : Addr) (fd : FuncData), Fun K x x st f fd ∧ mg x = some (.ref f)

structure Has (P : Program) (w : World) (K : PySem.W.Frag) (mg : Str → Option Value) (base : Heap) (k : Nat) (x : Str) (ps : List Str) (sp : Sp) : Prop where
  ex : ∃ (f : Addr) (fd : FuncData), FnOk P w K mg base CX0 k f fd ps sp ∧ mg x = some (.ref f) ∧ PySem.W.keepIn K (.ref f) = true ∧ Binds K fd ps []

section
variable {P : Program} {w : World} {K : PySem.W.Frag} {mg : Str → Option Value} {base : Heap}
theorem Has.mono {j k : Nat} {x : Str} {ps : List Str} {sp : Sp} (h : Has P w K mg base j x ps sp) (e : j ≤ k) : Has P w K mg base k x ps sp := by
  obtain ⟨f, fd, a, b, c, d⟩ := h.ex
  exact ⟨f, fd, a.mono e, b, c, d⟩
/-- the context of a def's body -/
abbrev bx (P : Program) (w : World) (K : PySem.W.Frag) (mg : Str → Option Value) (base : Heap) (N : List Str) (x : Str) (st : Stmt) (f : Addr) (cdv : Value) (A : Around) (outer : List Env) (s : Shared) (H : Hp) (E : XK) : Cx :=
  (cxOf CX0 P w K mg base N x (defScope st) f cdv A outer s H E).nox
theorem fnok_of {x : Str} {st : Stmt} {N ps : List Str} {k : Nat} {sp : Sp} {f : Addr} {fd : FuncData} (F : Fun K x x st f fd) (S : FnScope N ps (defScope st))
    (len : ∀ vs H Q E, sp vs H Q E → vs.length = ps.length)
    (hbody : ∀ (f : Addr) (cdv : Value) (A : Around) (outer : List Env) (s : Shared) (H : Hp) (vs : List V) (Q : VK) (E : XK), Room k (A.deeper (envOfC x (defScope st) s.heap.objs.size f cdv)) → sp vs H Q E →
      ∃ t, PSs (bx P w K mg base N x st f cdv A outer s H E) (defBody st) t ∧ t { nx := fun _ H' => Q .non H', rt := Q } (start N vs) H) : FnOk P w K mg base CX0 (k + 1) f fd ps sp :=
  F.ok S len fun cdv A outer s H vs Q E hr h => hbody f cdv A outer s H vs Q E hr h
theorem has_of {x : Str} {st : Stmt} {N ps : List Str} {k : Nat} {sp : Sp} (D : DefIn K mg x st) (S : FnScope N ps (defScope st))
    (hb : ∀ (kV doc pm : Value) (an : Option Addr) (cdv ct : Value) (us : List Value), us.length = ps.length → bindArgs (PySem.W.fnOf x x (defArgs st) (defBody st) (defScope st) .none kV doc pm an cdv ct) ⟨us, []⟩ = pure (ps.zip us))
    (len : ∀ vs H Q E, sp vs H Q E → vs.length = ps.length)
    (hbody : ∀ (f : Addr) (cdv : Value) (A : Around) (outer : List Env) (s : Shared) (H : Hp) (vs : List V) (Q : VK) (E : XK), Room k (A.deeper (envOfC x (defScope st) s.heap.objs.size f cdv)) → sp vs H Q E →
      ∃ t, PSs (bx P w K mg base N x st f cdv A outer s H E) (defBody st) t ∧ t { nx := fun _ H' => Q .non H', rt := Q } (start N vs) H) : Has P w K mg base (k + 1) x ps sp := by
  obtain ⟨f, fd, F, m⟩ := D.ex
  exact ⟨f, fd, fnok_of F S len hbody, m, F.kp, F.binds hb⟩
end
section
variable {X : Cx}
theorem pe_h {k : Nat} {x : Str} {ps : List Str} {sp : Sp} {e : Expr} {es : List Expr} {t : TA} {p pos : Pos} (h : Has X.prog X.w X.K X.mg X.base k x ps sp) (hr : Room k X.A) (ha : PA X (e :: es) t) (hg : Gl X x := by rfl)
    (hdb : (x == ("__debug__" : Str)) = false := by decide) (he : starEach (e :: es) X.env = (false, eval e X.env) :: starEach es X.env := by rfl) (hpl : (backTo pos (starEach es X.env)).any (·.1) = false := by rfl) :
    PE X (.Call (.Name x p) (e :: es) [] pos) (tCall sp [] E0 t) := by
  obtain ⟨f, fd, a, b, c, d⟩ := h.ex
  exact pe_call a hr hg b c d .nil pass0 ha hdb he hpl
end

/-! ### heaps: all stands but at one address -/
def Ex1 (d : Addr) (H H' : Hp) : Prop := ∀ a o, a ≠ d → H a = some o → H' a = some o
theorem Ex1.refl {d : Addr} {H : Hp} : Ex1 d H H := fun _ _ _ h => h
theorem Ex1.trans {d : Addr} {H H1 H2 : Hp} (a : Ex1 d H H1) (b : Ex1 d H1 H2) : Ex1 d H H2 := fun x o n h => b x o n (a x o n h)
theorem Ex1.upd {d : Addr} {H : Hp} {o : HO} : Ex1 d H (upd H d o) := fun a u n h => by rw [upd_ne n]; exact h
theorem Ex1.of {d : Addr} {H H' : Hp} (h : Same H H') : Ex1 d H H' := fun a o _ e => h a o e
theorem Ex1.rd {d : Addr} {H H' : Hp} {a : Addr} {u : HO} (e : Ex1 d H H') (n : a ≠ d) (h : Rd H a u) : Rd H' a u := by
  rcases h with h | ⟨o, h⟩
  · exact Or.inl (e a _ n h)
  · exact Or.inr ⟨o, e a _ n h⟩
theorem Ex1.l {K : PySem.W.Frag} {d : Addr} {H H' : Hp} {a : Addr} {xs : List V} (e : Ex1 d H H') (n : a ≠ d) (h : SqL K H a xs) : SqL K H' a xs := by
  rcases h with h | h
  · exact Or.inl (e.rd n h)
  · exact Or.inr h
theorem Ex1.t {K : PySem.W.Frag} {d : Addr} {H H' : Hp} {a : Addr} {xs : List V} (e : Ex1 d H H') (n : a ≠ d) (h : SqT K H a xs) : SqT K H' a xs := by
  rcases h with h | h
  · exact Or.inl (e.rd n h)
  · exact Or.inr h

/-! ### the deck -/
def DeckAt (K : PySem.W.Frag) (H : Hp) (d : Addr) : Prop := ∃ (s : Addr) (ns : List Int) (pos rest seed : Int), H d = some (.lst [.ref s, .int pos, .int rest, .int seed]) ∧ SqL K H s (ns.map V.int) ∧ s ≠ d ∧ 0 ≤ pos
theorem DeckAt.same {K : PySem.W.Frag} {H H' : Hp} {d : Addr} (h : DeckAt K H d) (e : Same H H') : DeckAt K H' d := by
  obtain ⟨s, ns, p, r, q, h1, h2, h3, h4⟩ := h
  exact ⟨s, ns, p, r, q, e _ _ h1, e.seq h2, h3, h4⟩
theorem Same.new {H : Hp} {p : Addr} {o : HO} (h : H p = none) : Same H (upd H p o) := fun a u e => by
  rw [upd_ne (ne_of_none e h)]
  exact e
def spDraw (K : PySem.W.Frag) : Sp := fun vs H Q _ => ∃ (d : Addr) (m : Int), vs = [.ref d, .int m] ∧ DeckAt K H d ∧ 0 < m ∧ m < 10 ^ 62 ∧ ∀ v H', 0 ≤ v → v < m → DeckAt K H' d → Ex1 d H H' → Q (.int v) H'
def spDeck (K : PySem.W.Frag) : Sp := fun vs H Q _ => ∃ (a : Addr) (ns : List Int), vs = [.ref a] ∧ SqL K H a (ns.map V.int) ∧ ∀ d H', H d = none → DeckAt K H' d → Same H H' → Q (.ref d) H'
theorem div62 {i m : Int} (h : 0 < m) (h1 : m < 10 ^ 62) : CDivW i m := by
  have e : (10 : Int) ^ 62 < 2 ^ 250 := by decide
  refine wide_div (b := 250) h ?_ (by decide) (by decide)
  have e1 : (10 : Nat) ^ 62 < 2 ^ 250 := by decide
  have e2 : m.natAbs < 10 ^ 62 := by omega
  omega

/-! ### readings, step by step -/
section
variable {σ : L2.St} {H : Hp} {Q : VK} {v x y : V} {ta tb tc te : TE} {K : PySem.W.Frag} {D : Ends} {t u : TS}
theorem g_var {i : Nat} (h : σ[i]? = some (some v)) (q : Q v H) : tVar i σ H Q := ⟨v, h, q⟩
theorem g_c (q : Q v H) : tC v σ H Q := q
theorem g_op {r : R2} (h : ta σ H fun x H1 => tb σ H1 fun y H2 => r x y H2 Q) : tOp r ta tb σ H Q := h
theorem g_un {r : V → Hp → VK → Prop} (h : ta σ H fun x H1 => r x H1 Q) : tUn r ta σ H Q := h
theorem g_I0 {g : Int → Int → V} {i j : Int} (q : Q (g i j) H) : rI0 g (.int i) (.int j) H Q := ⟨i, j, rfl, rfl, q⟩
theorem g_I {C : Int → Int → Prop} {g : Int → Int → V} {i j : Int} (c : C i j) (q : Q (g i j) H) : rI C g (.int i) (.int j) H Q := ⟨i, j, rfl, rfl, c, q⟩
theorem g_U {g : Int → V} {i : Int} (q : Q (g i) H) : rU g (.int i) H Q := ⟨i, rfl, q⟩
theorem g_ixL {p : Addr} {xs : List V} {i : Int} (h : SqL K H p xs) (a : atI xs i = some v) (q : Q v H) : rIxL K (.ref p) (.int i) H Q := ⟨p, xs, i, v, rfl, rfl, h, a, q⟩
theorem g_ixT {p : Addr} {xs : List V} {i : Int} (h : SqT K H p xs) (a : atI xs i = some v) (q : Q v H) : rIxT K (.ref p) (.int i) H Q := ⟨p, xs, i, v, rfl, rfl, h, a, q⟩
theorem g_eq (h : scal x y = true) (q : Q (.bl (decide (x = y))) H) : rEq x y H Q := ⟨h, q⟩
theorem g_ne (h : scal x y = true) (q : Q (.bl (!decide (x = y))) H) : rNe x y H Q := ⟨h, q⟩
theorem g_eqI {i j : Int} (q : Q (.bl (decide (i = j))) H) : rEq (.int i) (.int j) H Q := ⟨rfl, by
  have e : decide (V.int i = V.int j) = decide (i = j) := by simp
  rw [e]; exact q⟩
theorem g_neI {i j : Int} (q : Q (.bl (!decide (i = j))) H) : rNe (.int i) (.int j) H Q := ⟨rfl, by
  have e : decide (V.int i = V.int j) = decide (i = j) := by simp
  rw [e]; exact q⟩
theorem g_eqB {i j : Bool} (q : Q (.bl (decide (i = j))) H) : rEq (.bl i) (.bl j) H Q := ⟨rfl, by
  have e : decide (V.bl i = V.bl j) = decide (i = j) := by simp
  rw [e]; exact q⟩
/-! calls of built-ins, by named readings -/
def rInt : List V → Hp → VK → Prop := fun xs H Q => ∃ i, xs = [.int i] ∧ Q (.int i) H
def rIntB : List V → Hp → VK → Prop := fun xs H Q => ∃ k, xs = [.bl k] ∧ Q (.int (if k then 1 else 0)) H
def rAbs : List V → Hp → VK → Prop := fun xs H Q => ∃ i, xs = [.int i] ∧ Q (.int (if i < 0 then -i else i)) H
def rMax : List V → Hp → VK → Prop := fun xs H Q => ∃ i j, xs = [.int i, .int j] ∧ Q (.int (if j > i then j else i)) H
def rMin : List V → Hp → VK → Prop := fun xs H Q => ∃ i j, xs = [.int i, .int j] ∧ Q (.int (if j < i then j else i)) H
def rLen (K : PySem.W.Frag) : List V → Hp → VK → Prop := fun xs H Q => ∃ p ys, xs = [.ref p] ∧ (SqL K H p ys ∨ SqT K H p ys) ∧ Q (.int (ys.length : Int)) H
def rList (K : PySem.W.Frag) : List V → Hp → VK → Prop := fun xs H Q => ∃ p ys, xs = [.ref p] ∧ (SqL K H p ys ∨ SqT K H p ys) ∧ ∀ l, H l = none → Q (.ref l) (upd H l (.lst ys))
theorem g_cb1 {r : List V → Hp → VK → Prop} (h : ta σ H fun x H1 => r [x] H1 Q) : tCB r (tCons ta tNil) σ H Q := h
theorem g_cb2 {r : List V → Hp → VK → Prop} (h : ta σ H fun x H1 => tb σ H1 fun y H2 => r [x, y] H2 Q) : tCB r (tCons ta (tCons tb tNil)) σ H Q := h
theorem g_int {i : Int} (q : Q (.int i) H) : rInt [.int i] H Q := ⟨i, rfl, q⟩
theorem g_intB {k : Bool} (q : Q (.int (if k then 1 else 0)) H) : rIntB [.bl k] H Q := ⟨k, rfl, q⟩
theorem g_abs {i : Int} (q : Q (.int (if i < 0 then -i else i)) H) : rAbs [.int i] H Q := ⟨i, rfl, q⟩
theorem g_max {i j : Int} (q : Q (.int (if j > i then j else i)) H) : rMax [.int i, .int j] H Q := ⟨i, j, rfl, q⟩
theorem g_min {i j : Int} (q : Q (.int (if j < i then j else i)) H) : rMin [.int i, .int j] H Q := ⟨i, j, rfl, q⟩
theorem g_lenL {p : Addr} {ys : List V} (h : SqL K H p ys) (q : Q (.int (ys.length : Int)) H) : rLen K [.ref p] H Q := ⟨p, ys, rfl, .inl h, q⟩
theorem g_lenT {p : Addr} {ys : List V} (h : SqT K H p ys) (q : Q (.int (ys.length : Int)) H) : rLen K [.ref p] H Q := ⟨p, ys, rfl, .inr h, q⟩
theorem g_listL {p : Addr} {ys : List V} (h : SqL K H p ys) (q : ∀ l, H l = none → Q (.ref l) (upd H l (.lst ys))) : rList K [.ref p] H Q := ⟨p, ys, rfl, .inl h, q⟩
theorem g_gcd {a b : Int} (q : Q (.int ((Nat.gcd a.natAbs b.natAbs : Nat) : Int)) H) : rGcd [.int a, .int b] H Q := ⟨a, b, rfl, q⟩
theorem g_isi {c : V} {ty w : Value} {b : Bool} (hc : ClsV c w) (ht : TyX K H x ty) (e : PySem.W.kitOne K ty w = some b) (q : Q (.bl b) H) : rIsi K [x, c] H Q := ⟨x, c, ty, w, b, rfl, hc, ht, e, q⟩
/-- isinstance(x, T), T a built-in type's name, x of the built-in type n -/
theorem g_isiT {n m : String} {b : Bool} (ht : TyX K H x (.type n)) (e : kitB n m = some b) (q : Q (.bl b) H) : rIsi K [x, .ty m] H Q := ⟨x, .ty m, .type n, .type m, b, rfl, .ty m, ht, kit_ty e, q⟩
/-! displays -/
theorem g_tup2 (h : ta σ H fun x H1 => tb σ H1 fun y H2 => ∀ p, H2 p = none → Q (.ref p) (upd H2 p (.tup [x, y]))) : tTup (tCons ta (tCons tb tNil)) σ H Q := by
  show ta σ H fun x H1 => tb σ H1 fun y H2 => 2 ≤ sizeLine ∧ ∀ p, H2 p = none → Q (.ref p) (upd H2 p (.tup [x, y]))
  simpa [show (2 : Nat) ≤ sizeLine by decide] using h
theorem g_tupN {ta : TA} (h : ta σ H fun xs H1 => xs.length ≤ sizeLine ∧ ∀ p, H1 p = none → Q (.ref p) (upd H1 p (.tup xs))) : tTup ta σ H Q := h
theorem g_lstN {ta : TA} (h : ta σ H fun xs H1 => xs.length ≤ sizeLine ∧ ∀ p, H1 p = none → Q (.ref p) (upd H1 p (.lst xs))) : tLst ta σ H Q := h
theorem g_nil {Q : List V → Hp → Prop} (q : Q [] H) : tNil σ H Q := q
theorem g_cons {tr : TA} {Q : List V → Hp → Prop} (h : ta σ H fun x H1 => tr σ H1 fun xs H2 => Q (x :: xs) H2) : tCons ta tr σ H Q := h
theorem g_new {n : Nat} {Q : Addr → Hp → Prop} {f : Addr → Hp} (hn : n ≤ 1000) (h : ∀ p, H p = none → Q p (f p)) : n ≤ sizeLine ∧ ∀ p, H p = none → Q p (f p) := ⟨Nat.le_trans hn (by decide), h⟩
/-! tests -/
variable {QB : Bool → Hp → Prop} {tt tu : TT}
theorem g_test (h : te σ H fun x H1 => ∃ k, x = .bl k ∧ QB k H1) : tTest te σ H QB := h
theorem g_B (h : te σ H fun x H1 => ∃ k, x = .bl k ∧ QB k H1) : tB te σ H QB := h
theorem g_bl {b : Bool} (q : QB b H) : ∃ k, V.bl b = .bl k ∧ QB k H := ⟨b, rfl, q⟩
theorem g_not (h : tt σ H fun b H1 => QB (!b) H1) : tNot tt σ H QB := h
theorem g_and (h : tt σ H fun b H1 => if b = true then tu σ H1 QB else QB false H1) : tAnd tt tu σ H QB := h
theorem g_or (h : tt σ H fun b H1 => if b = true then QB true H1 else tu σ H1 QB) : tOr tt tu σ H QB := h
theorem g_andV (h : ta σ H fun x H1 => ∃ c, x = .bl c ∧ if c = true then tb σ H1 Q else Q (.bl false) H1) : tAndV ta tb σ H Q := h
theorem g_orV (h : ta σ H fun x H1 => ∃ c, x = .bl c ∧ if c = true then Q (.bl true) H1 else tb σ H1 Q) : tOrV ta tb σ H Q := h
theorem g_notV (h : ta σ H fun x H1 => ∃ c, x = .bl c ∧ Q (.bl (!c)) H1) : tNotV ta σ H Q := h
theorem g_ex {b : Bool} {P : Bool → Prop} (q : P b) : ∃ c, V.bl b = .bl c ∧ P c := ⟨b, rfl, q⟩
theorem g_ite {p : Prop} [Decidable p] {A B : Prop} (h1 : p → A) (h2 : ¬ p → B) : if decide p = true then A else B := by
  by_cases h : p
  · rw [decide_eq_true h, if_pos rfl]; exact h1 h
  · rw [decide_eq_false h, if_neg Bool.false_ne_true]; exact h2 h
theorem g_iteN {p : Prop} [Decidable p] {A B : Prop} (h1 : ¬ p → A) (h2 : p → B) : if (!decide p) = true then A else B := by
  by_cases h : p
  · rw [decide_eq_true h, if_neg (by decide)]; exact h2 h
  · rw [decide_eq_false h, if_pos (by decide)]; exact h1 h
theorem g_iteT {A B : Prop} (h : A) : if true = true then A else B := by rw [if_pos rfl]; exact h
theorem g_iteF {A B : Prop} (h : B) : if false = true then A else B := by rw [if_neg Bool.false_ne_true]; exact h
theorem g_iteNT {A B : Prop} (h : B) : if (!true) = true then A else B := by rw [if_neg (by decide)]; exact h
theorem g_iteNF {A B : Prop} (h : A) : if (!false) = true then A else B := by rw [if_pos (by decide)]; exact h
theorem g_iteB {b : Bool} {A B : Prop} (h1 : b = true → A) (h2 : b = false → B) : if b = true then A else B := by
  cases b with
  | true => rw [if_pos rfl]; exact h1 rfl
  | false => rw [if_neg Bool.false_ne_true]; exact h2 rfl
/-! statements -/
variable {g : TG}
theorem g_seq (h : t { D with nx := u D } σ H) : tSeq t u D σ H := h
theorem g_next (q : D.nx σ H) : tNext D σ H := q
theorem g_ret (h : te σ H D.rt) : tRet te D σ H := h
theorem g_if {c : TT} (h : c σ H fun b H1 => if b = true then t D σ H1 else u D σ H1) : tIfS c t u D σ H := h
theorem g_set {i : Nat} (h : te σ H fun x H1 => D.nx (σ.set i (some x)) H1) : tAsg te (gName i) D σ H := h
theorem g_setS (h : te σ H fun x H1 => ta σ H1 fun o H2 => tb σ H2 fun i H3 => rSetL o i x H3 fun H4 => D.nx σ H4) : tAsg te (gSub ta tb rSetL) D σ H := h
theorem g_setL {p : Addr} {xs : List V} {k : Int} {j : Nat} {Q : Hp → Prop} (h : H p = some (.lst xs)) (e : ixN xs.length k = some j) (q : Q (upd H p (.lst (xs.set j v)))) : rSetL (.ref p) (.int k) v H Q := ⟨p, xs, k, j, rfl, rfl, h, e, q⟩
theorem g_drop (h : te σ H fun _ H1 => D.nx σ H1) : tDrop te D σ H := h
theorem g_aug {i : Nat} {r : TIp} (hx : σ[i]? = some (some x)) (h : te σ H fun y H1 => r x y H1 fun z H2 => D.nx (σ.set i (some z)) H2) : tAug i te r D σ H := ⟨x, hx, h⟩
theorem g_ipI {f : Int → Int → Int} {i j : Int} (q : Q (.int (f i j)) H) : ipI f (.int i) (.int j) H Q := ⟨i, j, rfl, rfl, q⟩
theorem g_call {sp : Sp} {E : XK} {ta : TA} (h : ta σ H fun vs H1 => sp vs H1 Q E) : tCall sp [] E ta σ H Q := by
  show ta σ H fun vs H1 => sp (vs ++ []) H1 Q E
  simpa using h
end
section
variable {X : Cx}
theorem pe_powc {a b r : Int} {j1 j2 : Nat} {p1 p2 pos : Pos} (h : 0 ≤ b ∧ b ≤ 1000000 ∧ a.natAbs < 2 ^ 64) (e : a ^ b.toNat = r) : PE X (.BinOp (.Constant (.int a) j1 p1) .Pow (.Constant (.int b) j2 p2) pos) (tC (.int r)) :=
  ⟨fun pins s σ H Q I q => (pe_op op_pow pe_int pe_int).run pins s σ H Q I ⟨a, b, rfl, rfl, h, by subst e; exact q⟩⟩
theorem call_int' : CallR X (.type "int") rInt := fun pins s σ H xs us Q I r h => call_int1 pins s σ H xs us Q I r (.inl h)
theorem call_intB : CallR X (.type "int") rIntB := fun pins s σ H xs us Q I r h => call_int1 pins s σ H xs us Q I r (.inr h)
theorem call_abs' : CallR X (.builtin "abs") rAbs := call_abs
theorem call_max' (hc : X.calm = true) : CallR X (.builtin "max") rMax := call_max2 hc
theorem call_min' (hc : X.calm = true) : CallR X (.builtin "min") rMin := call_min2 hc
theorem call_len' : CallR X (.builtin "len") (rLen X.K) := call_len_seq
theorem call_list' : CallR X (.type "list") (rList X.K) := call_list_of
end
/-! isinstance, by the built-in kinds -/
theorem kit_int_int : kitB "int" "int" = some true := by decide +kernel
theorem kit_int_bool : kitB "int" "bool" = some false := by decide +kernel
theorem kit_int_tuple : kitB "int" "tuple" = some false := by decide +kernel
theorem kit_int_str : kitB "int" "str" = some false := by decide +kernel
theorem kit_int_list : kitB "int" "list" = some false := by decide +kernel
theorem kit_int_dict : kitB "int" "dict" = some false := by decide +kernel
theorem kit_bool_int : kitB "bool" "int" = some true := by decide +kernel
theorem kit_bool_bool : kitB "bool" "bool" = some true := by decide +kernel
theorem kit_bool_tuple : kitB "bool" "tuple" = some false := by decide +kernel
theorem kit_bool_str : kitB "bool" "str" = some false := by decide +kernel
theorem kit_bool_list : kitB "bool" "list" = some false := by decide +kernel
theorem kit_bool_dict : kitB "bool" "dict" = some false := by decide +kernel
theorem kit_tuple_int : kitB "tuple" "int" = some false := by decide +kernel
theorem kit_tuple_bool : kitB "tuple" "bool" = some false := by decide +kernel
theorem kit_tuple_tuple : kitB "tuple" "tuple" = some true := by decide +kernel
theorem kit_tuple_str : kitB "tuple" "str" = some false := by decide +kernel
theorem kit_tuple_list : kitB "tuple" "list" = some false := by decide +kernel
theorem kit_tuple_dict : kitB "tuple" "dict" = some false := by decide +kernel
theorem kit_str_int : kitB "str" "int" = some false := by decide +kernel
theorem kit_str_bool : kitB "str" "bool" = some false := by decide +kernel
theorem kit_str_tuple : kitB "str" "tuple" = some false := by decide +kernel
theorem kit_str_str : kitB "str" "str" = some true := by decide +kernel
theorem kit_str_list : kitB "str" "list" = some false := by decide +kernel
theorem kit_str_dict : kitB "str" "dict" = some false := by decide +kernel
theorem kit_list_int : kitB "list" "int" = some false := by decide +kernel
theorem kit_list_bool : kitB "list" "bool" = some false := by decide +kernel
theorem kit_list_tuple : kitB "list" "tuple" = some false := by decide +kernel
theorem kit_list_str : kitB "list" "str" = some false := by decide +kernel
theorem kit_list_list : kitB "list" "list" = some true := by decide +kernel
theorem kit_list_dict : kitB "list" "dict" = some false := by decide +kernel
theorem kit_NoneType_int : kitB "NoneType" "int" = some false := by decide +kernel
theorem kit_NoneType_bool : kitB "NoneType" "bool" = some false := by decide +kernel
theorem kit_NoneType_tuple : kitB "NoneType" "tuple" = some false := by decide +kernel
theorem kit_NoneType_str : kitB "NoneType" "str" = some false := by decide +kernel
theorem kit_NoneType_list : kitB "NoneType" "list" = some false := by decide +kernel
theorem kit_NoneType_dict : kitB "NoneType" "dict" = some false := by decide +kernel
theorem kit_dict_int : kitB "dict" "int" = some false := by decide +kernel
theorem kit_dict_bool : kitB "dict" "bool" = some false := by decide +kernel
theorem kit_dict_tuple : kitB "dict" "tuple" = some false := by decide +kernel
theorem kit_dict_str : kitB "dict" "str" = some false := by decide +kernel
theorem kit_dict_list : kitB "dict" "list" = some false := by decide +kernel
theorem kit_dict_dict : kitB "dict" "dict" = some true := by decide +kernel

/-! defs with defaults -/
structure DefInD (K : PySem.W.Frag) (mg : Str → Option Value) (x : Str) (st : Stmt) (dvs : List V) : Prop where
  ex : ∃ (f : Addr) (fd : FuncData), FunD K x x (defArgs st) (defBody st) (defScope st) dvs [] f fd ∧ mg x = some (.ref f)
structure HasD (P : Program) (w : World) (K : PySem.W.Frag) (mg : Str → Option Value) (base : Heap) (k : Nat) (x : Str) (ps : List Str) (dvs : List V) (sp : Sp) : Prop where
  ex : ∃ (f : Addr) (fd : FuncData) (ds : List Value), FnOk P w K mg base CX0 k f fd ps sp ∧ mg x = some (.ref f) ∧ PySem.W.keepIn K (.ref f) = true ∧ Vals dvs ds ∧ Binds K fd ps ds
section
variable {P : Program} {w : World} {K : PySem.W.Frag} {mg : Str → Option Value} {base : Heap}
/-- the def's promise; its calls with n values written, the defaults behind the first j filling up -/
theorem hasD_of {x : Str} {st : Stmt} {N ps : List Str} {k : Nat} {sp : Sp} {dvs : List V} (D : DefInD K mg x st dvs) (S : FnScope N ps (defScope st)) (n j : Nat) (hd : dvs ≠ []) (hn : n + (dvs.length - j) = ps.length)
    (hb : ∀ (T : Addr) (kV doc pm : Value) (an : Option Addr) (cdv ct : Value) (us its : List Value), us.length = n → its.length = dvs.length →
      ∃ k, bindArgs (PySem.W.fnOf x x (defArgs st) (defBody st) (defScope st) (.ref T) kV doc pm an cdv ct) ⟨us, []⟩ = seqItems? (.ref T) >>= k ∧ k (some its.toArray) = pure (ps.zip (us ++ its.drop j)))
    (len : ∀ vs H Q E, sp vs H Q E → vs.length = ps.length)
    (hbody : ∀ (f : Addr) (cdv : Value) (A : Around) (outer : List Env) (s : Shared) (H : Hp) (vs : List V) (Q : VK) (E : XK), Room k (A.deeper (envOfC x (defScope st) s.heap.objs.size f cdv)) → sp vs H Q E →
      ∃ t, PSs (bx P w K mg base N x st f cdv A outer s H E) (defBody st) t ∧ t { nx := fun _ H' => Q .non H', rt := Q } (start N vs) H) : HasD P w K mg base (k + 1) x ps (dvs.drop j) sp := by
  obtain ⟨f, fd, F, m⟩ := D.ex
  obtain ⟨ds, r, b⟩ := F.binds1 n j hd hn hb
  refine ⟨f, fd, ds, F.ok S len fun cdv A outer s H vs Q E hr h => ?_, m, F.kp, r, b⟩
  obtain ⟨t, ht, q⟩ := hbody f cdv A outer s H vs Q E hr h
  exact ⟨t, ht.nox, q⟩
end
theorem pe_hD {X : Cx} {k : Nat} {x : Str} {ps : List Str} {dvs : List V} {sp : Sp} {e : Expr} {es : List Expr} {t : TA} {p pos : Pos} (h : HasD X.prog X.w X.K X.mg X.base k x ps dvs sp) (hr : Room k X.A) (ha : PA X (e :: es) t) (hg : Gl X x := by rfl)
    (hdb : (x == ("__debug__" : Str)) = false := by decide) (he : starEach (e :: es) X.env = (false, eval e X.env) :: starEach es X.env := by rfl) (hpl : (backTo pos (starEach es X.env)).any (·.1) = false := by rfl) :
    PE X (.Call (.Name x p) (e :: es) [] pos) (tCall sp dvs E0 t) := by
  obtain ⟨f, fd, ds, a, b, c, r, d⟩ := h.ex
  exact pe_call a hr hg b c d r pass0 ha hdb he hpl
theorem g_callD {sp : Sp} {dvs : List V} {E : XK} {ta : TA} {σ : L2.St} {H : Hp} {Q : VK} (h : ta σ H fun vs H1 => sp (vs ++ dvs) H1 Q E) : tCall sp dvs E ta σ H Q := h
end Fl

set_option Elab.async false
set_option linter.all false
set_option maxRecDepth 100000
set_option maxHeartbeats 4000000
set_option exponentiation.threshold 20000
/-! fractions: the mathematics, and what the helpers promise -/
namespace Fl
open PySem PySem.Spec PyProof.Rows L2

def gg (p q : Int) : Int := ((Nat.gcd p.natAbs q.natAbs : Nat) : Int)
def rp (p q : Int) : Int := if q < 0 then -(p / gg p q) else p / gg p q
def rq (p q : Int) : Int := if q < 0 then -(q / gg p q) else q / gg p q
theorem gg_pos {p q : Int} (h : q ≠ 0) : 0 < gg p q := by
  have : 0 < Nat.gcd p.natAbs q.natAbs := Nat.gcd_pos_of_pos_right _ (by omega)
  unfold gg; omega
theorem gg_dvd_l (p q : Int) : gg p q ∣ p := by
  unfold gg
  exact Int.ofNat_dvd_left.mpr (Nat.gcd_dvd_left _ _)
theorem gg_dvd_r (p q : Int) : gg p q ∣ q := by
  unfold gg
  exact Int.ofNat_dvd_left.mpr (Nat.gcd_dvd_right _ _)
theorem abs_div_le {p g : Int} (hg : 0 < g) : (p / g).natAbs ≤ p.natAbs := by
  have h := Int.natAbs_ediv_le_natAbs p g
  exact h
theorem fdiv_neg_exact {p g : Int} (hg : 0 < g) (hd : g ∣ p) : Int.fdiv p (-g) = -(p / g) := by
  obtain ⟨k, rfl⟩ := hd
  have h1 : g * k / g = k := Int.mul_ediv_cancel_left k (by omega)
  rw [h1]
  have h2 : g * k = (-g) * (-k) := by rw [Int.neg_mul_neg]
  rw [h2]
  exact Int.mul_fdiv_cancel_left (-k) (by omega)
theorem fdiv_pos_exact {p g : Int} (hg : 0 < g) : Int.fdiv p g = p / g := Int.fdiv_eq_ediv_of_nonneg p (by omega)
theorem rp_abs (p q : Int) (h : q ≠ 0) : (rp p q).natAbs ≤ p.natAbs := by
  have := abs_div_le (p := p) (gg_pos (p := p) h)
  unfold rp
  split <;> omega
theorem rq_abs (p q : Int) (h : q ≠ 0) : (rq p q).natAbs ≤ q.natAbs := by
  have := abs_div_le (p := q) (gg_pos (p := p) h)
  unfold rq
  split <;> omega
theorem rq_pos (p q : Int) (h : q ≠ 0) : 0 < rq p q := by
  have hg := gg_pos (p := p) h
  obtain ⟨k, hk⟩ := gg_dvd_r p q
  have e : q / gg p q = k := Int.ediv_eq_of_eq_mul_right (by omega) hk
  unfold rq
  rw [e]
  by_cases hq : q < 0
  · rw [if_pos hq]
    have : k < 0 := by
      rcases (by omega : k < 0 ∨ 0 ≤ k) with h1 | h1
      · exact h1
      · have : 0 ≤ gg p q * k := Int.mul_nonneg (by omega) h1
        omega
    omega
  · rw [if_neg hq]
    rcases (by omega : 0 < k ∨ k ≤ 0) with h1 | h1
    · exact h1
    · have h2 : gg p q * k ≤ 0 := Int.mul_nonpos_of_nonneg_of_nonpos (by omega) h1
      omega
theorem rp_mul (p q : Int) (h : q ≠ 0) : rp p q * q = p * rq p q := by
  have hg := gg_pos (p := p) h
  obtain ⟨k, hk⟩ := gg_dvd_r p q
  obtain ⟨l, hl⟩ := gg_dvd_l p q
  have e : q / gg p q = k := Int.ediv_eq_of_eq_mul_right (by omega) hk
  have e2 : p / gg p q = l := Int.ediv_eq_of_eq_mul_right (by omega) hl
  have key : l * q = p * k := by
    generalize gg p q = g at hk hl
    subst hk hl
    rw [Int.mul_comm g l, Int.mul_assoc]
  unfold rp rq
  rw [e, e2]
  split
  · rw [Int.neg_mul, key, Int.mul_neg]
  · exact key

/-! the loop of Euclid -/
theorem euclid_step {m n : Nat} (hn : 0 < n) : Nat.gcd n (m % n) = Nat.gcd m n := by
  rw [Nat.gcd_comm n (m % n), Nat.gcd_comm m n]
  exact (Nat.gcd_rec n m).symm
structure Eu (g B i m n : Nat) : Prop where
  gcd : Nat.gcd m n = g
  lt : (i = 0 ∧ m * n ≤ B) ∨ n < m
  le : m * n * 2 ^ i ≤ 2 * B
theorem Eu.start {m n B : Nat} (h : m * n ≤ B) : Eu (Nat.gcd m n) B 0 m n := ⟨rfl, .inl ⟨rfl, h⟩, by simp; omega⟩
theorem Eu.step {g B i m n : Nat} (h : Eu g B i m n) (hn : 0 < n) : Eu g B (i + 1) n (m % n) := by
  refine ⟨(euclid_step hn).trans h.gcd, .inr (Nat.mod_lt _ hn), ?_⟩
  have hle := h.le
  rcases h.lt with e | e
  · obtain ⟨e, e'⟩ := e
    subst e
    have h1 : m % n ≤ m := Nat.mod_le _ _
    have h2 : n * (m % n) ≤ n * m := Nat.mul_le_mul_left _ h1
    have h3 : n * m = m * n := Nat.mul_comm _ _
    rw [Nat.zero_add, Nat.pow_one]
    omega
  · have h1 : 2 * (m % n) ≤ m := by
      have q1 := Nat.div_add_mod m n
      have q2 : m % n < n := Nat.mod_lt _ hn
      have q3 : 1 ≤ m / n := (Nat.le_div_iff_mul_le hn).mpr (by omega)
      have q4 : n * 1 ≤ n * (m / n) := Nat.mul_le_mul_left _ q3
      omega
    have h2 : n * (m % n) * 2 ^ (i + 1) = n * (2 * (m % n)) * 2 ^ i := by
      rw [Nat.pow_succ]
      simp only [Nat.mul_assoc, Nat.mul_comm, Nat.mul_left_comm]
    have h3 : n * (2 * (m % n)) ≤ n * m := Nat.mul_le_mul_left _ h1
    have h4 : n * (2 * (m % n)) * 2 ^ i ≤ n * m * 2 ^ i := Nat.mul_le_mul_right _ h3
    rw [h2, Nat.mul_comm n m] at *
    omega
theorem Eu.fin {g B m n : Nat} (h : Eu g B 5000 m n) (hB : B < 2 ^ 4990) : m = g := by
  have h0 : n = 0 := by
    rcases Nat.eq_zero_or_pos n with e | e
    · exact e
    · exfalso
      have hm : n < m := by
        rcases h.lt with q | q
        · cases q.1
        · exact q
      have h1 : 1 * 1 ≤ m * n := Nat.mul_le_mul (by omega) e
      have h2 : 1 * 2 ^ 5000 ≤ m * n * 2 ^ 5000 := Nat.mul_le_mul_right _ (by omega)
      have h3 := h.le
      have h4 : 2 * 2 ^ 4990 ≤ 1 * 2 ^ 5000 := by decide +kernel
      omega
  have := h.gcd
  rw [h0, Nat.gcd_zero_right] at this
  exact this
theorem Eu.done {g B i m : Nat} (h : Eu g B i m 0) : m = g := by
  have := h.gcd
  rw [Nat.gcd_zero_right] at this
  exact this

/-! sizes -/
theorem mulW {i j : Int} (hi : i.natAbs < 2 ^ 4000) (hj : j.natAbs < 2 ^ 4000) : CMulW i j := wide_mul hi hj (by decide) (by decide) (by decide)
theorem divW {i j : Int} (h : 0 < j) (hj : j.natAbs < 2 ^ 4000) : CDivW i j := wide_div h hj (by decide) (by decide)
/-- // by a divisor of either sign -/
def CDivS (_ j : Int) : Prop := j ≠ 0 ∧ j.natAbs.log2 < 9000
theorem op_fdivS {X : Cx} : OpR X (binaryOp .FloorDiv) (rI CDivS fun i j => .int (i.fdiv j)) := opI fun i j _ _ _ _ _ hc q =>
  floordiv_int hc.1 q (.inl (PyProof.noPylong_of_log2 hc.2))
theorem divS {i j : Int} (h : j ≠ 0) (hj : j.natAbs < 2 ^ 4000) : CDivS i j := ⟨h, Nat.lt_of_lt_of_le (PySem.Flt.log2_lt_of (by decide) hj) (by decide)⟩

/-! loops -/
section
variable {σ : L2.St} {H : Hp} {te : TE} {D : Ends} {g : TG} {tb : TS}
theorem g_forR (n : Int) (Pv : Nat → L2.St → Hp → Prop) (h : te σ H fun x H1 => x = .int n ∧ -(2 ^ 62) ≤ n ∧ n < 2 ^ 62 ∧ Pv 0 σ H1)
    (hs : ∀ (i : Nat) σ' H', (i : Int) < n → Pv i σ' H' → g (.int (i : Int)) σ' H' fun σ2 H2 => tb { D with nx := Pv (i + 1), ct := Pv (i + 1), bk := D.nx } σ2 H2)
    (hd : ∀ σ' H', Pv n.toNat σ' H' → D.nx σ' H') (mono : ∀ Q Q' : VK, (∀ x H1, Q x H1 → Q' x H1) → te σ H Q → te σ H Q') : tFor (iRng1 (tCons te tNil)) g tb D σ H := by
  refine mono _ _ (fun x H1 q => ?_) h
  obtain ⟨rfl, h1, h2, p⟩ := q
  show ∃ j : Int, [V.int n] = [V.int j] ∧ _
  refine ⟨n, rfl, h1, h2, for_range Pv p (fun i σ' H' hi p' => ?_) hd⟩
  have e0 : (0 : Int) + (i : Int) = (i : Int) := Int.zero_add _
  rw [e0]
  exact hs i σ' H' (by omega) p'
end

/-! promises -/
/-- the frame: what stood stands -/
def spGcd : Sp := fun vs H Q _ => ∃ (m n : Nat), vs = [.int (m : Int), .int (n : Int)] ∧ m * n < 2 ^ 4990 ∧ Q (.int ((Nat.gcd m n : Nat) : Int)) H
def spRat : Sp := fun vs H Q _ => ∃ (p q : Int), vs = [.int p, .int q] ∧ q ≠ 0 ∧ p.natAbs < 2 ^ 2000 ∧ q.natAbs < 2 ^ 2000 ∧ ∀ t, H t = none → Q (.ref t) (upd H t (.tup [.int (rp p q), .int (rq p q)]))
/-- a fraction stands at a -/
def FrAt (K : PySem.W.Frag) (H : Hp) (a : Addr) (p q : Int) : Prop := SqT K H a [.int p, .int q]
theorem rat_app {p q : Int} {H : Hp} {Q : VK} {E : XK} (h : q ≠ 0) (h1 : p.natAbs < 2 ^ 2000) (h2 : q.natAbs < 2 ^ 2000) (k : ∀ t, H t = none → Q (.ref t) (upd H t (.tup [.int (rp p q), .int (rq p q)]))) : spRat [.int p, .int q] H Q E :=
  ⟨p, q, rfl, h, h1, h2, k⟩
theorem draw_app {K : PySem.W.Frag} {d : Addr} {m : Int} {H : Hp} {Q : VK} {E : XK} (h : DeckAt K H d) (h1 : 0 < m) (h2 : m < 10 ^ 62) (k : ∀ v H', 0 ≤ v → v < m → DeckAt K H' d → Ex1 d H H' → Q (.int v) H') : spDraw K [.ref d, .int m] H Q E :=
  ⟨d, m, rfl, h, h1, h2, k⟩
theorem deck_app {K : PySem.W.Frag} {a : Addr} {ns : List Int} {H : Hp} {Q : VK} {E : XK} (h : SqL K H a (ns.map V.int)) (k : ∀ d H', H d = none → DeckAt K H' d → Same H H' → Q (.ref d) H') : spDeck K [.ref a] H Q E :=
  ⟨a, ns, rfl, h, k⟩
theorem DeckAt.ne {K : PySem.W.Frag} {H : Hp} {d p : Addr} (h : DeckAt K H d) (hp : H p = none) : p ≠ d := by
  obtain ⟨s, ns, a, b, c, h1, _⟩ := h
  exact fun e => by rw [e, h1] at hp; cases hp
theorem Same.t {K : PySem.W.Frag} {H H' : Hp} {a : Addr} {xs : List V} (e : Same H H') (h : SqT K H a xs) : SqT K H' a xs := by
  rcases h with (h | ⟨o, h⟩) | h
  · exact .inl (.inl (e _ _ h))
  · exact .inl (.inr ⟨o, e _ _ h⟩)
  · exact .inr h

theorem at_int {ns : List Int} {i : Int} (h0 : 0 ≤ i) (h : i < ns.length) : ∃ n, atI (ns.map V.int) i = some (.int n) := by
  obtain ⟨k, rfl⟩ : ∃ k : Nat, i = (k : Int) := ⟨i.toNat, by omega⟩
  have hk : k < ns.length := by omega
  refine ⟨ns[k], atI_nat ?_⟩
  rw [List.getElem?_map, List.getElem?_eq_getElem hk]
  rfl

theorem natAbs_ediv_of_dvd {p g : Int} (hg : 0 < g) (hd : g ∣ p) : (p / g).natAbs = p.natAbs / g.natAbs := by
  obtain ⟨k, rfl⟩ := hd
  rw [Int.mul_ediv_cancel_left k (by omega), Int.natAbs_mul, Nat.mul_div_cancel_left _ (by omega)]
theorem rat_cop (p q : Int) (h : q ≠ 0) : Nat.gcd (rp p q).natAbs (rq p q).natAbs = 1 := by
  have hg := gg_pos (p := p) h
  have e : (gg p q).natAbs = Nat.gcd p.natAbs q.natAbs := rfl
  have h0 : 0 < Nat.gcd p.natAbs q.natAbs := by omega
  have key : Nat.gcd (p / gg p q).natAbs (q / gg p q).natAbs = 1 := by
    rw [natAbs_ediv_of_dvd hg (gg_dvd_l p q), natAbs_ediv_of_dvd hg (gg_dvd_r p q), e]
    exact Nat.gcd_div_gcd_div_gcd_of_pos_right (by omega)
  unfold rp rq
  split
  · rw [Int.natAbs_neg, Int.natAbs_neg]
    exact key
  · exact key
/-- a drawn fraction -/
structure Fra (n e : Int) : Prop where
  pos : 0 < e
  bn : n.natAbs ≤ 10 ^ 12
  be : e.natAbs ≤ 10 ^ 12
  cop : Nat.gcd n.natAbs e.natAbs = 1
theorem big12 {x : Int} (h : x.natAbs ≤ 10 ^ 12) : x.natAbs < 2 ^ 2000 := by
  have : (10 : Nat) ^ 12 < 2 ^ 2000 := by decide +kernel
  omega
theorem big40 {x : Int} (h : x.natAbs < 2 ^ 2000) : x.natAbs < 2 ^ 4000 := by
  have : (2 : Nat) ^ 2000 < 2 ^ 4000 := by decide +kernel
  omega
theorem Fra.int {n : Int} (h : n.natAbs ≤ 10 ^ 12) : Fra n 1 := ⟨by decide, h, by decide, Nat.gcd_one_right _⟩
theorem Fra.rat {p q : Int} (h : q ≠ 0) (h1 : p.natAbs ≤ 10 ^ 12) (h2 : q.natAbs ≤ 10 ^ 12) : Fra (rp p q) (rq p q) :=
  ⟨rq_pos p q h, Nat.le_trans (rp_abs p q h) h1, Nat.le_trans (rq_abs p q h) h2, rat_cop p q h⟩
def spBig (K : PySem.W.Frag) : Sp := fun vs H Q _ => ∃ (d : Addr), vs = [.ref d] ∧ DeckAt K H d ∧ ∀ t H' n e, DeckAt K H' d → Ex1 d H H' → t ≠ d → SqT K H' t [.int n, .int e] → Fra n e → Q (.ref t) H'
theorem big_app {K : PySem.W.Frag} {d : Addr} {H : Hp} {Q : VK} {E : XK} (h : DeckAt K H d) (k : ∀ t H' n e, DeckAt K H' d → Ex1 d H H' → t ≠ d → SqT K H' t [.int n, .int e] → Fra n e → Q (.ref t) H') : spBig K [.ref d] H Q E := ⟨d, rfl, h, k⟩
def sg (x : Int) : Int := if 0 < x then 1 else if x < 0 then -1 else 0
theorem sg_neg (x : Int) : sg (-x) = -sg x := by
  unfold sg
  rcases (by omega : x < 0 ∨ x = 0 ∨ 0 < x) with h | h | h
  · rw [if_pos (by omega), if_neg (by omega), if_pos h]; rfl
  · subst h; rfl
  · rw [if_neg (by omega), if_pos (by omega), if_pos h]

def spCmp (K : PySem.W.Frag) : Sp := fun vs H Q _ => ∃ (a b : Addr) (n e m k : Int), vs = [.ref a, .ref b] ∧ SqT K H a [.int n, .int e] ∧ SqT K H b [.int m, .int k] ∧
  n.natAbs < 2 ^ 4000 ∧ e.natAbs < 2 ^ 4000 ∧ m.natAbs < 2 ^ 4000 ∧ k.natAbs < 2 ^ 4000 ∧ Q (.int (sg (n * k - m * e))) H
theorem cmp_app {K : PySem.W.Frag} {a b : Addr} {n e m k : Int} {H : Hp} {Q : VK} {E : XK} (h1 : SqT K H a [.int n, .int e]) (h2 : SqT K H b [.int m, .int k])
  (f1 : Fra n e) (f2 : Fra m k) (q : Q (.int (sg (n * k - m * e))) H) : spCmp K [.ref a, .ref b] H Q E :=
  ⟨a, b, n, e, m, k, rfl, h1, h2, big40 (big12 f1.bn), big40 (big12 f1.be), big40 (big12 f2.bn), big40 (big12 f2.be), q⟩
def spDown (K : PySem.W.Frag) : Sp := fun vs H Q _ => ∃ (a : Addr) (n e : Int), vs = [.ref a] ∧ SqT K H a [.int n, .int e] ∧ 0 < e ∧ e.natAbs < 2 ^ 4000 ∧ Q (.int (n / e)) H
def spNear (K : PySem.W.Frag) : Sp := fun vs H Q _ => ∃ (a : Addr) (n e : Int), vs = [.ref a] ∧ SqT K H a [.int n, .int e] ∧ 0 < e ∧ (2 * e).natAbs < 2 ^ 4000 ∧ Q (.int ((2 * n + e) / (2 * e))) H
theorem down_app {K : PySem.W.Frag} {a : Addr} {n e : Int} {H : Hp} {Q : VK} {E : XK} (h1 : SqT K H a [.int n, .int e]) (f1 : Fra n e) (q : Q (.int (n / e)) H) : spDown K [.ref a] H Q E := ⟨a, n, e, rfl, h1, f1.pos, big40 (big12 f1.be), q⟩
theorem near_app {K : PySem.W.Frag} {a : Addr} {n e : Int} {H : Hp} {Q : VK} {E : XK} (h1 : SqT K H a [.int n, .int e]) (f1 : Fra n e) (q : Q (.int ((2 * n + e) / (2 * e))) H) : spNear K [.ref a] H Q E :=
  ⟨a, n, e, rfl, h1, f1.pos, by
    have h2 := f1.be
    have h3 : (2 : Nat) * 10 ^ 12 < 2 ^ 4000 := by decide +kernel
    omega, q⟩
def spIsInt : Sp := fun vs H Q _ => ∃ (i : Int), vs = [.int i] ∧ Q (.bl true) H
theorem isint_app {i : Int} {H : Hp} {Q : VK} {E : XK} (q : Q (.bl true) H) : spIsInt [.int i] H Q E := ⟨i, rfl, q⟩
def spSameI : Sp := fun vs H Q _ => ∃ (i j : Int), vs = [.int i, .int j] ∧ Q (.bl (decide (i = j))) H
theorem sameI_app {i j : Int} {H : Hp} {Q : VK} {E : XK} (q : Q (.bl (decide (i = j))) H) : spSameI [.int i, .int j] H Q E := ⟨i, j, rfl, q⟩

theorem fra_app {p q : Int} {H : Hp} {Q : VK} {E : XK} (h : q ≠ 0) (h1 : p.natAbs ≤ 10 ^ 12) (h2 : q.natAbs ≤ 10 ^ 12) (k : ∀ t n e, H t = none → Fra n e → Q (.ref t) (upd H t (.tup [.int n, .int e]))) : spRat [.int p, .int q] H Q E :=
  rat_app h (big12 h1) (big12 h2) fun t ht => k t _ _ ht (Fra.rat h h1 h2)
theorem down2_app {K : PySem.W.Frag} {a : Addr} {n e : Int} {H : Hp} {Q : VK} {E : XK} (h1 : SqT K H a [.int n, .int e]) (f1 : Fra n e)
    (q : ∀ v, v.natAbs < 2 ^ 4000 → (v + 1).natAbs < 2 ^ 4000 → e.natAbs < 2 ^ 4000 → v * e ≤ n → n < (v + 1) * e → Q (.int v) H) : spDown K [.ref a] H Q E := by
  have hp := f1.pos
  have b1 := f1.bn
  have b2 := f1.be
  have big : (10 : Nat) ^ 12 + 1 < 2 ^ 4000 := by decide +kernel
  have b3 : (n / e).natAbs ≤ n.natAbs := Int.natAbs_ediv_le_natAbs n e
  refine down_app h1 f1 (q _ (by omega) (by omega) (by omega) ?_ ?_)
  · exact Int.ediv_mul_le n (by omega)
  · exact Int.lt_ediv_add_one_mul_self n hp
theorem near2_app {K : PySem.W.Frag} {a : Addr} {n e : Int} {H : Hp} {Q : VK} {E : XK} (h1 : SqT K H a [.int n, .int e]) (f1 : Fra n e)
    (q : ∀ v, (2 * v).natAbs < 2 ^ 4000 → e.natAbs < 2 ^ 4000 → 2 * v * e ≤ 2 * n + e → 2 * n - e < 2 * v * e → Q (.int v) H) : spNear K [.ref a] H Q E := by
  have hp := f1.pos
  have b1 := f1.bn
  have b2 := f1.be
  have big : (10 : Nat) ^ 14 < 2 ^ 4000 := by decide +kernel
  have b3 : ((2 * n + e) / (2 * e)).natAbs ≤ (2 * n + e).natAbs := Int.natAbs_ediv_le_natAbs _ _
  have c1 := Int.ediv_mul_le (2 * n + e) (b := 2 * e) (by omega)
  have c2 := Int.lt_ediv_add_one_mul_self (2 * n + e) (b := 2 * e) (by omega)
  generalize hv : (2 * n + e) / (2 * e) = v at *
  have e1 : v * (2 * e) = 2 * v * e := by rw [Int.mul_left_comm, Int.mul_assoc]
  have e2 : (v + 1) * (2 * e) = 2 * v * e + 2 * e := by rw [Int.add_mul, e1, Int.one_mul]
  refine near_app h1 f1 ?_
  rw [hv]
  exact q v (by omega) (by omega) (by omega) (by omega)

theorem sg_opp (x y : Int) : sg (x - y) = -sg (y - x) := by
  rw [← sg_neg]
  congr 1
  omega
theorem of_dec {p : Prop} [Decidable p] {Q : VK} {H : Hp} (h : p) (q : Q (.bl true) H) : Q (.bl (decide p)) H := by
  rw [decide_eq_true h]
  exact q
theorem DeckAt.ne' {K : PySem.W.Frag} {H : Hp} {d p : Addr} (hp : H p = none) (h : DeckAt K H d) : p ≠ d := h.ne hp
end Fl

set_option Elab.async false
set_option linter.all false
set_option maxRecDepth 100000
set_option maxHeartbeats 4000000
set_option exponentiation.threshold 20000
/-! fractions as numbers -/
namespace Fl
open PySem PySem.Spec PyProof.Rows L2

theorem gg_comm (p q : Int) : gg p q = ((Int.gcd q p : Nat) : Int) := by
  unfold gg Int.gcd
  rw [Nat.gcd_comm]
theorem rp_num {p q : Int} (h : q ≠ 0) : rp p q = (Rat.divInt p q).num := by
  rw [Rat.num_divInt, ← gg_comm]
  have hg := gg_pos (p := p) h
  obtain ⟨k, hk⟩ := gg_dvd_l p q
  have e : p / gg p q = k := Int.ediv_eq_of_eq_mul_right (by omega) hk
  unfold rp
  rw [e]
  split
  · rename_i hq
    rw [Int.sign_eq_neg_one_of_neg hq]
    refine (Int.ediv_eq_of_eq_mul_right (by omega) ?_).symm
    rw [Int.mul_neg, ← hk, Int.neg_mul, Int.one_mul]
  · rw [Int.sign_eq_one_of_pos (by omega), Int.one_mul, e]
theorem rq_den {p q : Int} (h : q ≠ 0) : rq p q = ((Rat.divInt p q).den : Int) := by
  rw [Rat.den_divInt, if_neg h]
  have hg := gg_pos (p := p) h
  obtain ⟨k, hk⟩ := gg_dvd_r p q
  have e : q / gg p q = k := Int.ediv_eq_of_eq_mul_right (by omega) hk
  have e2 : ((q.natAbs / Int.gcd q p : Nat) : Int) = (q.natAbs : Int) / gg p q := by
    rw [gg_comm]
    exact Int.natCast_ediv _ _
  rw [e2]
  unfold rq
  rw [e]
  split
  · rename_i hq
    refine (Int.ediv_eq_of_eq_mul_right (by omega) ?_).symm
    rw [Int.mul_neg, ← hk]
    omega
  · refine (Int.ediv_eq_of_eq_mul_right (by omega) ?_).symm
    rw [← hk]
    omega

/-- the fraction x stands at a -/
def RV (K : PySem.W.Frag) (H : Hp) (a : Addr) (x : Rat) : Prop := SqT K H a [.int x.num, .int (x.den : Int)]
theorem RV.ex1 {K : PySem.W.Frag} {d : Addr} {H H' : Hp} {a : Addr} {x : Rat} (e : Ex1 d H H') (n : a ≠ d) (h : RV K H a x) : RV K H' a x := Ex1.t e n h
theorem RV.same {K : PySem.W.Frag} {H H' : Hp} {a : Addr} {x : Rat} (e : Same H H') (h : RV K H a x) : RV K H' a x := Same.t e h
theorem RV.sq {K : PySem.W.Frag} {H : Hp} {a : Addr} {x : Rat} (h : RV K H a x) : SqT K H a [.int x.num, .int (x.den : Int)] := h
/-- of moderate size -/
structure Md (x : Rat) : Prop where
  n : x.num.natAbs < 2 ^ 900
  d : x.den < 2 ^ 900
structure Szq (k : Nat) (x : Rat) : Prop where
  n : x.num.natAbs < 2 ^ k
  d : x.den < 2 ^ k
theorem Szq.md {k : Nat} {x : Rat} (h : Szq k x) (hk : k ≤ 900) : Md x :=
  ⟨Nat.lt_of_lt_of_le h.n (Nat.pow_le_pow_right (by decide) hk), Nat.lt_of_lt_of_le h.d (Nat.pow_le_pow_right (by decide) hk)⟩
theorem szq_div {p q : Int} {k : Nat} (h : q ≠ 0) (h1 : p.natAbs < 2 ^ k) (h2 : q.natAbs < 2 ^ k) : Szq k (Rat.divInt p q) := by
  have e1 := rp_abs p q h
  have e2 := rq_abs p q h
  rw [rp_num h] at e1
  rw [rq_den h] at e2
  exact ⟨by omega, by omega⟩
theorem pw_add {a b j k : Nat} (ha : a < 2 ^ j) (hb : b < 2 ^ k) : a * b < 2 ^ (j + k) := by
  rw [Nat.pow_add]
  exact Nat.mul_lt_mul'' ha hb
theorem add_div (x y : Rat) : Rat.divInt (x.num * y.den + y.num * x.den) ((x.den : Int) * y.den) = x + y := by
  rw [Rat.add_def', ← Rat.divInt_ofNat, Int.natCast_mul]
theorem sub_div (x y : Rat) : Rat.divInt (x.num * y.den - y.num * x.den) ((x.den : Int) * y.den) = x - y := by
  rw [Rat.sub_def', ← Rat.divInt_ofNat, Int.natCast_mul]
theorem mul_div' (x y : Rat) : Rat.divInt (x.num * y.num) ((x.den : Int) * y.den) = x * y := by
  rw [Rat.mul_def', ← Rat.divInt_ofNat, Int.natCast_mul]
theorem div_div' (x y : Rat) : Rat.divInt (x.num * y.den) ((x.den : Int) * y.num) = x / y := by
  rw [Rat.div_def, Rat.inv_def]
  conv => rhs; rw [← Rat.num_divInt_den x]
  rw [Rat.divInt_mul_divInt]
theorem den0 (x : Rat) : (x.den : Int) ≠ 0 := by
  have := x.den_nz
  omega
theorem sz_cross {x y : Rat} {j k : Nat} (hx : Szq j x) (hy : Szq k y) : (x.num * y.den).natAbs < 2 ^ (j + k) ∧ (y.num * x.den).natAbs < 2 ^ (j + k) ∧ ((x.den : Int) * y.den).natAbs < 2 ^ (j + k) ∧ (x.num * y.num).natAbs < 2 ^ (j + k) ∧ ((x.den : Int) * y.num).natAbs < 2 ^ (j + k) := by
  simp only [Int.natAbs_mul, Int.natAbs_natCast]
  refine ⟨pw_add hx.n hy.d, ?_, pw_add hx.d hy.d, pw_add hx.n hy.n, pw_add hx.d hy.n⟩
  rw [Nat.mul_comm]
  exact pw_add hx.d hy.n
theorem Szq.add {x y : Rat} {j k : Nat} (hx : Szq j x) (hy : Szq k y) : Szq (j + k + 1) (x + y) := by
  obtain ⟨h1, h2, h3, h4, h5⟩ := sz_cross hx hy
  rw [← add_div]
  have e : 2 ^ (j + k + 1) = 2 * 2 ^ (j + k) := by rw [Nat.pow_succ, Nat.mul_comm]
  exact szq_div (Int.mul_ne_zero (den0 x) (den0 y)) (by omega) (by omega)
theorem Szq.sub {x y : Rat} {j k : Nat} (hx : Szq j x) (hy : Szq k y) : Szq (j + k + 1) (x - y) := by
  obtain ⟨h1, h2, h3, h4, h5⟩ := sz_cross hx hy
  rw [← sub_div]
  have e : 2 ^ (j + k + 1) = 2 * 2 ^ (j + k) := by rw [Nat.pow_succ, Nat.mul_comm]
  exact szq_div (Int.mul_ne_zero (den0 x) (den0 y)) (by omega) (by omega)
theorem Szq.mul {x y : Rat} {j k : Nat} (hx : Szq j x) (hy : Szq k y) : Szq (j + k) (x * y) := by
  obtain ⟨h1, h2, h3, h4, h5⟩ := sz_cross hx hy
  rw [← mul_div']
  exact szq_div (Int.mul_ne_zero (den0 x) (den0 y)) (by omega) (by omega)
theorem num0 {x : Rat} (h : x ≠ 0) : x.num ≠ 0 := fun e => h (Rat.num_eq_zero.mp e)
theorem Szq.div {x y : Rat} {j k : Nat} (hx : Szq j x) (hy : Szq k y) (h : y ≠ 0) : Szq (j + k) (x / y) := by
  obtain ⟨h1, h2, h3, h4, h5⟩ := sz_cross hx hy
  rw [← div_div']
  exact szq_div (Int.mul_ne_zero (den0 x) (num0 h)) (by omega) (by omega)
theorem Fra.rat_of {n e : Int} (h : Fra n e) : ∃ x : Rat, x.num = n ∧ (x.den : Int) = e ∧ Szq 41 x := by
  have hp := h.pos
  obtain ⟨k, rfl⟩ : ∃ k : Nat, e = (k : Int) := ⟨e.toNat, by omega⟩
  refine ⟨⟨n, k, by omega, h.cop⟩, rfl, rfl, ?_, ?_⟩
  · have := h.bn
    show n.natAbs < _
    have e : (10 : Nat) ^ 12 < 2 ^ 41 := by decide
    omega
  · have := h.be
    show k < _
    have e : (10 : Nat) ^ 12 < 2 ^ 41 := by decide
    omega

/-! promises -/
def spRatP : Sp := spRat
def spBin (K : PySem.W.Frag) (f : Rat → Rat → Rat) (pre : Rat → Rat → Prop) : Sp := fun vs H Q _ => ∃ (a b : Addr) (x y : Rat), vs = [.ref a, .ref b] ∧ RV K H a x ∧ RV K H b y ∧ Md x ∧ Md y ∧ pre x y ∧
  ∀ t H', H t = none → Same H H' → RV K H' t (f x y) → Q (.ref t) H'
theorem bin_app {K : PySem.W.Frag} {f : Rat → Rat → Rat} {pre : Rat → Rat → Prop} {a b : Addr} {x y : Rat} {H : Hp} {Q : VK} {E : XK} (h1 : RV K H a x) (h2 : RV K H b y) (m1 : Md x) (m2 : Md y) (hp : pre x y)
  (k : ∀ t H', H t = none → Same H H' → RV K H' t (f x y) → Q (.ref t) H') : spBin K f pre [.ref a, .ref b] H Q E := ⟨a, b, x, y, rfl, h1, h2, m1, m2, hp, k⟩
def cq (x y : Rat) : Int := if x < y then -1 else if y < x then 1 else 0
def spCq (K : PySem.W.Frag) : Sp := fun vs H Q _ => ∃ (a b : Addr) (x y : Rat), vs = [.ref a, .ref b] ∧ RV K H a x ∧ RV K H b y ∧ Md x ∧ Md y ∧ Q (.int (cq x y)) H
theorem cq_app {K : PySem.W.Frag} {a b : Addr} {x y : Rat} {H : Hp} {Q : VK} {E : XK} (h1 : RV K H a x) (h2 : RV K H b y) (m1 : Md x) (m2 : Md y) (q : Q (.int (cq x y)) H) : spCq K [.ref a, .ref b] H Q E := ⟨a, b, x, y, rfl, h1, h2, m1, m2, q⟩
theorem cq_add (x y z : Rat) : cq (x + z) (y + z) = cq x y := by
  unfold cq
  simp only [Rat.add_lt_add_right]
def nr (x : Rat) : Int := (2 * x.num + x.den) / (2 * x.den)
def spNr (K : PySem.W.Frag) : Sp := fun vs H Q _ => ∃ (a : Addr) (x : Rat), vs = [.ref a] ∧ RV K H a x ∧ Md x ∧ Q (.int (nr x)) H
theorem nr_app {K : PySem.W.Frag} {a : Addr} {x : Rat} {H : Hp} {Q : VK} {E : XK} (h1 : RV K H a x) (m1 : Md x) (q : Q (.int (nr x)) H) : spNr K [.ref a] H Q E := ⟨a, x, rfl, h1, m1, q⟩
def spRatq (K : PySem.W.Frag) : Sp := fun vs H Q _ => ∃ (p q : Int), vs = [.int p, .int q] ∧ q ≠ 0 ∧ p.natAbs < 2 ^ 1900 ∧ q.natAbs < 2 ^ 1900 ∧ ∀ t H', H t = none → Same H H' → RV K H' t (Rat.divInt p q) → Q (.ref t) H'
theorem ratq_app {K : PySem.W.Frag} {p q : Int} {H : Hp} {Q : VK} {E : XK} (h : q ≠ 0) (h1 : p.natAbs < 2 ^ 1900) (h2 : q.natAbs < 2 ^ 1900) (k : ∀ t H', H t = none → Same H H' → RV K H' t (Rat.divInt p q) → Q (.ref t) H') : spRatq K [.int p, .int q] H Q E := ⟨p, q, rfl, h, h1, h2, k⟩
theorem nr_add (x : Rat) (w : Int) : nr (x + Rat.divInt w 1) = nr x + w := by
  generalize hy : x + Rat.divInt w 1 = y
  have key : y.num * x.den = (x.num + w * x.den) * y.den := by
    have e : Rat.divInt (x.num + w * x.den) x.den = y := by
      rw [← hy]
      conv => rhs; lhs; rw [← Rat.num_divInt_den x]
      rw [Rat.divInt_add_divInt _ _ (den0 x) (by decide), Int.mul_one, Int.mul_one]
    rw [← Rat.num_divInt_den y] at e
    exact ((Rat.divInt_eq_divInt_iff (den0 x) (den0 y)).mp e).symm
  unfold nr
  have hx := x.den_pos
  have hyp := y.den_pos
  generalize x.num = n at *
  generalize (y.num) = m at *
  have hx' : (0 : Int) < x.den := by omega
  have hy' : (0 : Int) < y.den := by omega
  generalize (x.den : Int) = e at *
  generalize (y.den : Int) = k at *
  have c1 := Int.ediv_mul_le (2 * n + e) (b := 2 * e) (by omega)
  have c2 := Int.lt_ediv_add_one_mul_self (2 * n + e) (b := 2 * e) (by omega)
  generalize (2 * n + e) / (2 * e) = v at *
  have g1 : (v + w) * (2 * k) ≤ 2 * m + k := by
    refine Int.le_of_mul_le_mul_right (a := e) ?_ hx'
    have h1 : v * (2 * e) * k ≤ (2 * n + e) * k := Int.mul_le_mul_of_nonneg_right c1 (by omega)
    have e1 : (v + w) * (2 * k) * e = v * (2 * e) * k + 2 * (w * e * k) := by grind
    have e2 : (2 * m + k) * e = 2 * (m * e) + k * e := by grind
    rw [e1, e2, key]
    have e3 : 2 * ((n + w * e) * k) + k * e = (2 * n + e) * k + 2 * (w * e * k) := by grind
    rw [e3]
    omega
  have g2 : 2 * m + k < (v + w + 1) * (2 * k) := by
    refine Int.lt_of_mul_lt_mul_right (a := e) ?_ (by omega)
    have h1 : (2 * n + e) * k < (v + 1) * (2 * e) * k := Int.mul_lt_mul_of_pos_right c2 hy'
    have e1 : (v + w + 1) * (2 * k) * e = (v + 1) * (2 * e) * k + 2 * (w * e * k) := by grind
    have e2 : (2 * m + k) * e = 2 * (m * e) + k * e := by grind
    rw [e1, e2, key]
    have e3 : 2 * ((n + w * e) * k) + k * e = (2 * n + e) * k + 2 * (w * e * k) := by grind
    rw [e3]
    omega
  have f1 : v + w ≤ (2 * m + k) / (2 * k) := (Int.le_ediv_iff_mul_le (by omega)).mpr g1
  have f2 : (2 * m + k) / (2 * k) < v + w + 1 := (Int.ediv_lt_iff_lt_mul (by omega)).mpr g2
  omega
/-- != of two fractions that are the same number -/
theorem ne_app {K : PySem.W.Frag} {a b : Addr} {x y : Rat} {H : Hp} {Q : VK} (h1 : RV K H a x) (h2 : RV K H b y) (e : x = y) (q : Q (.bl false) H) : rNeD K (.ref a) (.ref b) H Q := by
  subst e
  have d1 : ∀ {a : Addr}, RV K H a x → Dp K H (.ref a) (.tuple [.int x.num, .int x.den]) := fun h => .tup h (.cons (.int _) (.cons (.int _) .nil))
  refine ⟨_, _, d1 h1, d1 h2, rfl, rfl, ?_⟩
  have e2 : PyData.eqv (.tuple [.int x.num, .int x.den]) (.tuple [.int x.num, .int x.den]) = true := SeqAt.eqv_refl _ rfl
  rw [e2]
  exact q
theorem g_neD {r : R2} {x y : V} {H : Hp} {Q : VK} (h : r x y H Q) : r x y H Q := h

theorem Md.big {x : Rat} (h : Md x) : x.num.natAbs < 2 ^ 4000 ∧ ((x.den : Int)).natAbs < 2 ^ 4000 := by
  have h1 := h.n
  have h2 := h.d
  have e : (2 : Nat) ^ 900 < 2 ^ 4000 := by decide +kernel
  constructor <;> omega
theorem md_cross {x y : Rat} (hx : Md x) (hy : Md y) : (x.num * y.den + y.num * x.den).natAbs < 2 ^ 1900 ∧ (x.num * y.den - y.num * x.den).natAbs < 2 ^ 1900 ∧ ((x.den : Int) * y.den).natAbs < 2 ^ 1900 ∧ (x.num * y.num).natAbs < 2 ^ 1900 ∧ ((x.den : Int) * y.num).natAbs < 2 ^ 1900 ∧ (x.num * y.den).natAbs < 2 ^ 1900 := by
  obtain ⟨h1, h2, h3, h4, h5⟩ := sz_cross (j := 900) (k := 900) ⟨hx.n, hx.d⟩ ⟨hy.n, hy.d⟩
  have e : 2 * 2 ^ (900 + 900) < (2 : Nat) ^ 1900 := by decide +kernel
  refine ⟨?_, ?_, ?_, ?_, ?_, ?_⟩ <;> omega

theorem bigq_app {K : PySem.W.Frag} {d : Addr} {H : Hp} {Q : VK} {E : XK} (h : DeckAt K H d) (k : ∀ t H' (x : Rat), DeckAt K H' d → Ex1 d H H' → t ≠ d → RV K H' t x → Szq 41 x → Q (.ref t) H') : spBig K [.ref d] H Q E := by
  refine big_app h fun t H' n e hD hE hn hS hF => ?_
  obtain ⟨x, rfl, rfl, hz⟩ := hF.rat_of
  exact k t H' x hD hE hn hS hz
theorem ne_of_num {x : Rat} (h : ¬ x.num = 0) : x ≠ 0 := fun e => h (by rw [e]; rfl)
end Fl

set_option Elab.async false
set_option linter.all false
set_option maxRecDepth 100000
set_option maxHeartbeats 4000000
set_option exponentiation.threshold 20000
/-! data at any depth, apart from the addresses S that are being written -/
namespace Fl
open PySem PySem.Spec PyProof.Rows L2

mutual
inductive Dq (S : List Addr) (H : Hp) : V → PyData → Prop
  | non : Dq S H .non .none
  | bl (b : Bool) : Dq S H (.bl b) (.bool b)
  | int (i : Int) : Dq S H (.int i) (.int i)
  | str (x : Str) : Dq S H (.str x) (.str x)
  | lst {a : Addr} {xs : List V} {ds : List PyData} : a ∉ S → H a = some (.lst xs) → DqA S H xs ds → Dq S H (.ref a) (.list ds)
  | tup {a : Addr} {xs : List V} {ds : List PyData} : a ∉ S → H a = some (.tup xs) → DqA S H xs ds → Dq S H (.ref a) (.tuple ds)
  | ins {a C dx : Addr} {fs : List (Str × V)} {ds : List (PyData × PyData)} : a ∉ S → H a = some (.ins C dx fs) → DqF S H fs ds → Dq S H (.ref a) (.dict ((.none, .int (C : Int)) :: ds))
inductive DqA (S : List Addr) (H : Hp) : List V → List PyData → Prop
  | nil : DqA S H [] []
  | cons {v : V} {vs : List V} {d : PyData} {ds : List PyData} : Dq S H v d → DqA S H vs ds → DqA S H (v :: vs) (d :: ds)
inductive DqF (S : List Addr) (H : Hp) : List (Str × V) → List (PyData × PyData) → Prop
  | nil : DqF S H [] []
  | cons {n : Str} {v : V} {fs : List (Str × V)} {d : PyData} {ds : List (PyData × PyData)} : Dq S H v d → DqF S H fs ds → DqF S H ((n, v) :: fs) ((.str n, d) :: ds)
end
mutual
theorem Dq.to {S S' : List Addr} {H H' : Hp} (k : ∀ a o, a ∉ S → H a = some o → a ∉ S' ∧ H' a = some o) : ∀ {v : V} {d : PyData}, Dq S H v d → Dq S' H' v d
  | _, _, .non => .non
  | _, _, .bl b => .bl b
  | _, _, .int i => .int i
  | _, _, .str x => .str x
  | _, _, .lst n h r => .lst (k _ _ n h).1 (k _ _ n h).2 (DqA.to k r)
  | _, _, .tup n h r => .tup (k _ _ n h).1 (k _ _ n h).2 (DqA.to k r)
  | _, _, .ins n h r => .ins (k _ _ n h).1 (k _ _ n h).2 (DqF.to k r)
theorem DqA.to {S S' : List Addr} {H H' : Hp} (k : ∀ a o, a ∉ S → H a = some o → a ∉ S' ∧ H' a = some o) : ∀ {vs : List V} {ds : List PyData}, DqA S H vs ds → DqA S' H' vs ds
  | _, _, .nil => .nil
  | _, _, .cons h r => .cons (Dq.to k h) (DqA.to k r)
theorem DqF.to {S S' : List Addr} {H H' : Hp} (k : ∀ a o, a ∉ S → H a = some o → a ∉ S' ∧ H' a = some o) : ∀ {fs : List (Str × V)} {ds : List (PyData × PyData)}, DqF S H fs ds → DqF S' H' fs ds
  | _, _, .nil => .nil
  | _, _, .cons h r => .cons (Dq.to k h) (DqF.to k r)
end
mutual
theorem Dq.dp {S : List Addr} {H : Hp} {K : PySem.W.Frag} : ∀ {v : V} {d : PyData}, Dq S H v d → d.hasDict = false → Dp K H v d
  | _, _, .non, _ => .non
  | _, _, .bl b, _ => .bl b
  | _, _, .int i, _ => .int i
  | _, _, .str x, _ => .str x
  | _, _, .lst _ h r, n => .lst (SqL.of h) (DqA.dp r (by simpa [PyData.hasDict] using n))
  | _, _, .tup _ h r, n => .tup (SqT.of h) (DqA.dp r (by simpa [PyData.hasDict] using n))
  | _, _, .ins _ _ _, n => by simp [PyData.hasDict] at n
theorem DqA.dp {S : List Addr} {H : Hp} {K : PySem.W.Frag} : ∀ {vs : List V} {ds : List PyData}, DqA S H vs ds → PyData.hasDictAll ds = false → DpAll K H vs ds
  | _, _, .nil, _ => .nil
  | _, _, .cons h r, n => .cons (Dq.dp h (by simp [PyData.hasDictAll] at n; exact n.1)) (DqA.dp r (by simp [PyData.hasDictAll] at n; exact n.2))
end
mutual
theorem nodict_lay : ∀ d : PyData, d.canLay0 = true → d.hasDict = false
  | .none, _ | .bool _, _ | .int _, _ | .str _, _ => rfl
  | .list xs, h => by
    simp only [PyData.hasDict]
    exact nodictAll_lay xs (by simpa [PyData.canLay0] using h)
  | .tuple xs, h => by
    simp only [PyData.hasDict]
    exact nodictAll_lay xs (by simpa [PyData.canLay0] using h)
  | .dict _, h => by simp [PyData.canLay0] at h
theorem nodictAll_lay : ∀ ds : List PyData, PyData.canLayAll0 ds = true → PyData.hasDictAll ds = false
  | [], _ => rfl
  | d :: ds, h => by
    simp [PyData.canLayAll0] at h
    simp [PyData.hasDictAll, nodict_lay d h.1, nodictAll_lay ds h.2]
end
theorem nodict_sh {d : PyData} (h : SeqAt.shaped d = true) : d.hasDict = false := by
  unfold SeqAt.shaped at h
  simp only [Bool.and_eq_true] at h
  exact nodict_lay d h.1
/-- all but what stands at S stands -/
def Fr (S : List Addr) (H H' : Hp) : Prop := ∀ a o, a ∉ S → H a = some o → H' a = some o
/-- these are there -/
def Al (S : List Addr) (H : Hp) : Prop := ∀ a, a ∈ S → H a ≠ none
section
variable {S T : List Addr} {H H' H2 : Hp} {a p D : Addr} {v : V} {d : PyData} {vs ws : List V} {ds es : List PyData} {o : HO}
theorem Fr.refl : Fr S H H := fun _ _ _ h => h
theorem Fr.trans (h : Fr S H H') (k : Fr S H' H2) : Fr S H H2 := fun a o n e => k a o n (h a o n e)
theorem Fr.mono (h : Fr S H H') (k : ∀ a, a ∈ S → a ∈ T) : Fr T H H' := fun a o n e => h a o (fun m => n (k a m)) e
theorem Fr.same (h : Same H H') : Fr S H H' := fun a o _ e => h a o e
theorem Fr.new (h : H p = none) : Fr S H (upd H p o) := Fr.same (Fl.Same.new h)
theorem Fr.upd (h : p ∈ S) : Fr S H (upd H p o) := fun a u n e => by
  rw [upd_ne (fun q => n (by rw [q]; exact h))]
  exact e
theorem Fr.sm (h : Fr [] H H') : Same H H' := fun a o e => h a o (List.not_mem_nil) e
theorem Al.nil : Al [] H := fun a h => nomatch h
theorem Al.cons (h : H a ≠ none) (k : Al S H) : Al (a :: S) H := fun b m => by
  rcases List.mem_cons.mp m with rfl | m
  · exact h
  · exact k b m
theorem Al.same (k : Al S H) (e : Same H H') : Al S H' := fun b m q => by
  cases z : H b with
  | none => exact k b m z
  | some o => rw [e b o z] at q; cases q
theorem Al.fr (k : Al S H) (e : Fr T H H') (k2 : Al T H') : Al S H' := fun b m q => by
  by_cases hb : b ∈ T
  · exact k2 b hb q
  · cases z : H b with
    | none => exact k b m z
    | some o => rw [e b o hb z] at q; cases q
theorem Al.ni (k : Al S H) (e : H p = none) : p ∉ S := fun m => k p m e
theorem Dq.fr (h : Dq S H v d) (e : Fr S H H') : Dq S H' v d := h.to fun a o n q => ⟨n, e a o n q⟩
theorem Dq.same (h : Dq S H v d) (e : Same H H') : Dq S H' v d := h.fr (Fr.same e)
theorem Dq.mono (h : Dq S H v d) (k : ∀ a, a ∈ T → a ∈ S) : Dq T H v d := h.to fun a o n q => ⟨fun m => n (k a m), q⟩
theorem Dq.new (h : Dq S H v d) (e : H D = none) : Dq (D :: S) H v d := h.to fun a o n q => ⟨fun m => by
  rcases List.mem_cons.mp m with rfl | m
  · rw [e] at q; cases q
  · exact n m, q⟩
theorem Dq.tail (h : Dq (D :: S) H v d) : Dq S H v d := h.mono fun _ m => List.mem_cons_of_mem _ m
theorem DqA.fr (h : DqA S H vs ds) (e : Fr S H H') : DqA S H' vs ds := h.to fun a o n q => ⟨n, e a o n q⟩
theorem DqA.same (h : DqA S H vs ds) (e : Same H H') : DqA S H' vs ds := h.fr (Fr.same e)
theorem DqA.mono (h : DqA S H vs ds) (k : ∀ a, a ∈ T → a ∈ S) : DqA T H vs ds := h.to fun a o n q => ⟨fun m => n (k a m), q⟩
theorem DqA.new (h : DqA S H vs ds) (e : H D = none) : DqA (D :: S) H vs ds := h.to fun a o n q => ⟨fun m => by
  rcases List.mem_cons.mp m with rfl | m
  · rw [e] at q; cases q
  · exact n m, q⟩
theorem DqA.tail (h : DqA (D :: S) H vs ds) : DqA S H vs ds := h.mono fun _ m => List.mem_cons_of_mem _ m
theorem DqA.len : ∀ {vs : List V} {ds : List PyData}, DqA S H vs ds → vs.length = ds.length
  | _, _, .nil => rfl
  | _, _, .cons _ r => congrArg (· + 1) (DqA.len r)
theorem DqA.app : ∀ {vs : List V} {ds : List PyData}, DqA S H vs ds → DqA S H ws es → DqA S H (vs ++ ws) (ds ++ es)
  | _, _, .nil, k => k
  | _, _, .cons h r, k => .cons h (DqA.app r k)
theorem DqA.one (h : Dq S H v d) : DqA S H [v] [d] := .cons h .nil
theorem DqA.drop : ∀ {vs : List V} {ds : List PyData} (n : Nat), DqA S H vs ds → DqA S H (vs.drop n) (ds.drop n)
  | _, _, 0, h => h
  | _, _, _ + 1, .nil => .nil
  | _, _, n + 1, .cons _ r => DqA.drop n r
theorem DqA.take : ∀ {vs : List V} {ds : List PyData} (n : Nat), DqA S H vs ds → DqA S H (vs.take n) (ds.take n)
  | _, _, 0, _ => .nil
  | _, _, _ + 1, .nil => .nil
  | _, _, n + 1, .cons h r => .cons h (DqA.take n r)
theorem DqA.rev : ∀ {vs : List V} {ds : List PyData}, DqA S H vs ds → DqA S H vs.reverse ds.reverse
  | _, _, .nil => .nil
  | _, _, .cons h r => by
    rw [List.reverse_cons, List.reverse_cons]
    exact (DqA.rev r).app (.one h)
theorem DqA.get : ∀ {vs : List V} {ds : List PyData} {i : Nat}, DqA S H vs ds → vs[i]? = some v → ∃ d, ds[i]? = some d ∧ Dq S H v d
  | _, _, _, .nil, e => by simp at e
  | _, _, 0, .cons h _, e => by simp at e; subst e; exact ⟨_, rfl, h⟩
  | _, _, i + 1, .cons _ r, e => by
    obtain ⟨d, h1, h2⟩ := DqA.get (i := i) r (by simpa using e)
    exact ⟨d, by simpa using h1, h2⟩
theorem DqA.getD : ∀ {vs : List V} {ds : List PyData} {i : Nat}, DqA S H vs ds → ds[i]? = some d → ∃ v, vs[i]? = some v ∧ Dq S H v d
  | _, _, _, .nil, e => by simp at e
  | _, _, 0, .cons h _, e => by simp at e; subst e; exact ⟨_, rfl, h⟩
  | _, _, i + 1, .cons _ r, e => by
    obtain ⟨v, h1, h2⟩ := DqA.getD (i := i) r (by simpa using e)
    exact ⟨v, by simpa using h1, h2⟩
theorem Dq.lstE (h : Dq S H v (.list ds)) : ∃ a xs, v = .ref a ∧ a ∉ S ∧ H a = some (.lst xs) ∧ DqA S H xs ds := by
  cases h with
  | lst n q r => exact ⟨_, _, rfl, n, q, r⟩
theorem Dq.tupE (h : Dq S H v (.tuple ds)) : ∃ a xs, v = .ref a ∧ a ∉ S ∧ H a = some (.tup xs) ∧ DqA S H xs ds := by
  cases h with
  | tup n q r => exact ⟨_, _, rfl, n, q, r⟩
theorem Dq.intE {i : Int} (h : Dq S H v (.int i)) : v = .int i := by cases h; rfl
theorem Dq.blE {b : Bool} (h : Dq S H v (.bool b)) : v = .bl b := by cases h; rfl
theorem Dq.nonE (h : Dq S H v .none) : v = .non := by cases h; rfl
theorem DqA.nilE (h : DqA S H vs []) : vs = [] := by cases h; rfl
theorem DqA.consE (h : DqA S H vs (d :: ds)) : ∃ v ws, vs = v :: ws ∧ Dq S H v d ∧ DqA S H ws ds := by
  cases h with
  | cons h r => exact ⟨_, _, rfl, h, r⟩
end
/-- a new list or tuple of data -/
theorem Dq.newL {S : List Addr} {H : Hp} {p : Addr} {xs : List V} {ds : List PyData} (k : Al S H) (e : H p = none) (h : DqA S H xs ds) : Dq S (upd H p (.lst xs)) (.ref p) (.list ds) :=
  .lst (k.ni e) upd_same (h.fr (Fr.new e))
theorem Dq.newT {S : List Addr} {H : Hp} {p : Addr} {xs : List V} {ds : List PyData} (k : Al S H) (e : H p = none) (h : DqA S H xs ds) : Dq S (upd H p (.tup xs)) (.ref p) (.tuple ds) :=
  .tup (k.ni e) upd_same (h.fr (Fr.new e))

/-- a function of data: nothing that stands is changed -/
def spD (f : List PyData → PyData → Prop) : Sp := fun vs H Q _ => ∃ S ds d, Al S H ∧ DqA S H vs ds ∧ f ds d ∧ ∀ v H', Same H H' → Dq S H' v d → Q v H'
theorem spD_app {f : List PyData → PyData → Prop} {vs : List V} {H : Hp} {Q : VK} {E : XK} (S : List Addr) (ds : List PyData) (d : PyData) (hS : Al S H) (hd : DqA S H vs ds) (hf : f ds d) (q : ∀ v H', Same H H' → Dq S H' v d → Q v H') : spD f vs H Q E :=
  ⟨S, ds, d, hS, hd, hf, q⟩

/-! ### points -/
abbrev Pt := Int × Int × Bool
def ptD (p : Pt) : PyData := .tuple [.int p.1, .int p.2.1, .bool p.2.2]
def ctD (c : List Pt) : PyData := .list (c.map ptD)
def ouD (o : List (List Pt)) : PyData := .list (o.map ctD)
theorem ptE {S : List Addr} {H : Hp} {v : V} {p : Pt} (h : Dq S H v (ptD p)) : ∃ a, v = .ref a ∧ a ∉ S ∧ H a = some (.tup [.int p.1, .int p.2.1, .bl p.2.2]) := by
  obtain ⟨a, xs, rfl, n, q, r⟩ := h.tupE
  obtain ⟨x1, w1, rfl, h1, r⟩ := r.consE
  obtain ⟨x2, w2, rfl, h2, r⟩ := r.consE
  obtain ⟨x3, w3, rfl, h3, r⟩ := r.consE
  cases r.nilE
  cases h1.intE
  cases h2.intE
  cases h3.blE
  exact ⟨a, rfl, n, q⟩
theorem ptI {S : List Addr} {H : Hp} {a : Addr} {x y : Int} {b : Bool} (n : a ∉ S) (q : H a = some (.tup [.int x, .int y, .bl b])) : Dq S H (.ref a) (ptD (x, y, b)) := .tup n q (.cons (.int _) (.cons (.int _) (.cons (.bl _) .nil)))

/-! ### comprehensions -/
section
variable {H1 : Hp} {Q : VK} {g : TG} {tt : TT} {te : TE} {tb : TS} {vs : List Nat} {σ : L2.St} {D : Ends}
/-- what is left of a comprehension when it is known what is walked -/
def lcK (J : It) (g : TG) (tt : TT) (te : TE) (vs : List Nat) (σ : L2.St) (H1 : Hp) (Q : VK) : Prop :=
  ∀ B, H1 B = none → ∃ W : Nat → Nat → Hp → Prop, (∃ m, W 0 m (upd H1 B (.lst []))) ∧ ∀ i m H, W i m H →
    (J.stop i H ∧ Q (.ref B) H) ∨ (J.go i H ∧ ∃ Nx : Hp → Prop, (∀ H', Nx H' → ∃ m', m' < m ∧ W (i + 1) m' H') ∧
      ∀ x H', J.yld i H x H' → g x (wipe σ vs) H' fun σ2 H2 => wipe σ2 vs = wipe σ vs ∧ tt σ2 H2 fun b H3 =>
        if b = true then te σ2 H3 fun y H4 => ∃ acc, H4 B = some (.lst acc) ∧ acc.length < sizeLine ∧ Nx (upd H4 B (.lst (acc ++ [y]))) else Nx H3)
/-- the same of a loop -/
def forK (J : It) (g : TG) (tb : TS) (D : Ends) (σ : L2.St) (H1 : Hp) : Prop :=
  ∃ W : Nat → Nat → L2.St → Hp → Prop, (∃ m, W 0 m σ H1) ∧ ∀ i m σ H, W i m σ H →
    (J.stop i H ∧ D.nx σ H) ∨ (J.go i H ∧ ∃ N : L2.St → Hp → Prop, (∀ σ' H', N σ' H' → ∃ m', m' < m ∧ W (i + 1) m' σ' H') ∧
      ∀ x H', J.yld i H x H' → g x σ H' fun σ2 H2 => tb { D with nx := N, ct := N, bk := D.nx } σ2 H2)
end
section
variable {S : List Addr} {H1 : Hp} {K : PySem.W.Frag} {g : TG} {tt : TT} {te : TE} {vs : List Nat} {σ : L2.St} {Q : VK}
theorem fm_succ {f : Nat → Option PyData} (i : Nat) : (List.range (i + 1)).filterMap f = (List.range i).filterMap f ++ (f i).toList := by
  rw [List.range_succ, List.filterMap_append]
  cases h : f i <;> simp [h]
theorem sm_of {D : Addr} {H : Hp} (hD : H1 D = none) (f : Fr [D] H1 H) : Same H1 H := fun b o q => f b o (fun m => by
  have : b = D := by simpa using m
  rw [this, hD] at q; cases q) q
/-- the list D at turn i: the items that f has given so far -/
structure CompAt (S : List Addr) (H1 : Hp) (D : Addr) (f : Nat → Option PyData) (i : Nat) (H : Hp) : Prop where
  ex : ∃ acc, H D = some (.lst acc) ∧ DqA (D :: S) H acc ((List.range i).filterMap f)
  fr : Fr [D] H1 H
theorem CompAt.zero {D : Addr} {f : Nat → Option PyData} (hD : H1 D = none) : CompAt S H1 D f 0 (upd H1 D (.lst [])) := ⟨⟨[], upd_same, .nil⟩, Fr.same (Fl.Same.new hD)⟩
theorem CompAt.same {D : Addr} {f : Nat → Option PyData} {i : Nat} {H H' : Hp} (h : CompAt S H1 D f i H) (e : Same H H') : CompAt S H1 D f i H' := by
  obtain ⟨⟨acc, h1, h2⟩, h3⟩ := h
  exact ⟨⟨acc, e _ _ h1, h2.same e⟩, h3.trans (Fr.same e)⟩
theorem CompAt.skip {D : Addr} {f : Nat → Option PyData} {i : Nat} {H : Hp} (h : CompAt S H1 D f i H) (e : f i = none) : CompAt S H1 D f (i + 1) H := by
  obtain ⟨⟨acc, h1, h2⟩, h3⟩ := h
  refine ⟨⟨acc, h1, ?_⟩, h3⟩
  rw [fm_succ, e]
  simpa using h2
theorem CompAt.len {D : Addr} {f : Nat → Option PyData} {i : Nat} {H : Hp} (h : CompAt S H1 D f i H) (hi : i < 1000) : ∀ acc, H D = some (.lst acc) → acc.length < sizeLine := by
  obtain ⟨⟨acc, h1, h2⟩, h3⟩ := h
  intro acc' h'
  rw [h1] at h'
  cases h'
  have e := h2.len
  have e2 := List.length_filterMap_le f (List.range i)
  rw [List.length_range] at e2
  have : (1000 : Nat) ≤ sizeLine := by decide
  omega
theorem CompAt.put {D : Addr} {f : Nat → Option PyData} {i : Nat} {H H4 : Hp} {y : V} {r : PyData} (h : CompAt S H1 D f i H) (hi : i < 1000) (e : f i = some r) (s : Same H H4) (d : Dq (D :: S) H4 y r) :
    ∃ acc, H4 D = some (.lst acc) ∧ acc.length < sizeLine ∧ CompAt S H1 D f (i + 1) (upd H4 D (.lst (acc ++ [y]))) := by
  have h4 := h.same s
  obtain ⟨⟨acc, h1, h2⟩, h3⟩ := h4
  refine ⟨acc, h1, (h.same s).len hi acc h1, ⟨acc ++ [y], upd_same, ?_⟩, h3.trans (Fr.upd (by simp))⟩
  rw [fm_succ, e]
  exact (h2.app (.one d)).fr (Fr.upd (by simp))
theorem CompAt.al {D : Addr} {f : Nat → Option PyData} {i : Nat} {H : Hp} (h : CompAt S H1 D f i H) (hS : Al S H1) (hD : H1 D = none) : Al (D :: S) H := by
  obtain ⟨⟨acc, h1, h2⟩, h3⟩ := h
  exact .cons (by rw [h1]; simp) (hS.same (sm_of hD h3))
theorem CompAt.fin {D : Addr} {f : Nat → Option PyData} {i : Nat} {H : Hp} (h : CompAt S H1 D f i H) (hS : Al S H1) (hD : H1 D = none) : Dq S H (.ref D) (.list ((List.range i).filterMap f)) := by
  obtain ⟨⟨acc, h1, h2⟩, h3⟩ := h
  exact .lst (hS.ni hD) h1 h2.tail
/-- [elt for x in list if test], nothing changed: es the items, f what becomes of each -/
theorem lcL {a : Addr} {es : List PyData} (f : Nat → Option PyData) (hS : Al S H1) (ha : Dq S H1 (.ref a) (.list es)) (hz : es.length < 1000)
    (step : ∀ (D : Addr) (i : Nat) (x : V) (e : PyData) (H : Hp), H1 D = none → es[i]? = some e → Same H1 H → Al (D :: S) H → Dq (D :: S) H x e →
      ∀ (R : V → Hp → Prop) (N : Hp → Prop), (∀ r y H4, f i = some r → Same H H4 → Dq (D :: S) H4 y r → R y H4) → (f i = none → ∀ H4, Same H H4 → N H4) →
      g x (wipe σ vs) H fun σ2 H2 => wipe σ2 vs = wipe σ vs ∧ tt σ2 H2 fun b H3 => if b = true then te σ2 H3 R else N H3)
    (q : ∀ (D : Addr) (H : Hp), Same H1 H → H1 D = none → Dq S H (.ref D) (.list ((List.range es.length).filterMap f)) → Q (.ref D) H) :
    lcK (Itl K a) g tt te vs σ H1 Q := by
  unfold lcK
  intro D hD
  obtain ⟨a', xs, ea, na, hxs, hall⟩ := ha.lstE
  cases ea
  have hlx := hall.len
  have hDa : a ≠ D := fun e => by rw [e, hD] at hxs; cases hxs
  refine lc_list (xs := xs) (CompAt S H1 D f) (CompAt.zero hD) ?_ ?_ ?_
  · intro i H _ h
    exact SqL.of (h.fr a _ (by simpa using hDa) hxs)
  · intro i x H hx h
    have hlt : i < xs.length := (List.getElem?_eq_some_iff.mp hx).1
    have hsm : Same H1 H := sm_of hD h.fr
    have hall' : DqA (D :: S) H xs es := (hall.new hD).same hsm
    obtain ⟨e, he, hxe⟩ := hall'.get hx
    exact step D i x e H hD he hsm (h.al hS hD) hxe _ _ (fun r y H4 er s d => h.put (by omega) er s d) fun en H4 s => (h.same s).skip en
  · intro H h
    rw [hlx] at h
    exact q D H (sm_of hD h.fr) hD (h.fin hS hD)
/-- the same over range(lo, ..) of n numbers -/
theorem lcR {lo : Int} {n : Nat} (f : Nat → Option PyData) (hS : Al S H1) (hz : n < 1000)
    (step : ∀ (D : Addr) (i : Nat) (H : Hp), H1 D = none → i < n → Same H1 H → Al (D :: S) H →
      ∀ (R : V → Hp → Prop) (N : Hp → Prop), (∀ r y H4, f i = some r → Same H H4 → Dq (D :: S) H4 y r → R y H4) → (f i = none → ∀ H4, Same H H4 → N H4) →
      g (.int (lo + i)) (wipe σ vs) H fun σ2 H2 => wipe σ2 vs = wipe σ vs ∧ tt σ2 H2 fun b H3 => if b = true then te σ2 H3 R else N H3)
    (q : ∀ (D : Addr) (H : Hp), Same H1 H → H1 D = none → Dq S H (.ref D) (.list ((List.range n).filterMap f)) → Q (.ref D) H) :
    lcK (Itr lo n) g tt te vs σ H1 Q := by
  unfold lcK
  intro D hD
  refine lc_range (CompAt S H1 D f) (CompAt.zero hD) ?_ ?_
  · intro i H hlt h
    exact step D i H hD hlt (sm_of hD h.fr) (h.al hS hD) _ _ (fun r y H4 er s d => h.put (by omega) er s d) fun en H4 s => (h.same s).skip en
  · intro H h
    exact q D H (sm_of hD h.fr) hD (h.fin hS hD)
theorem fm_take (rs : List PyData) : ∀ n : Nat, (List.range n).filterMap (fun i => rs[i]?) = rs.take n
  | 0 => by simp
  | n + 1 => by rw [fm_succ, fm_take rs n, List.take_succ]
theorem fm_map {es rs : List PyData} (hl : rs.length = es.length) : (List.range es.length).filterMap (fun i => rs[i]?) = rs := by
  rw [fm_take, List.take_of_length_le (by omega)]
end

/-! ### the deck -/
def Dk (d s : Addr) (ns : List Int) (H : Hp) : Prop := s ≠ d ∧ H s = some (.lst (ns.map V.int)) ∧ ∃ pos rest seed : Int, H d = some (.lst [.ref s, .int pos, .int rest, .int seed]) ∧ 0 ≤ pos
/-- only what stands at d is another -/
def On (d : Addr) (H H' : Hp) : Prop := ∀ b, b ≠ d → H' b = H b
section
variable {d s D : Addr} {ns : List Int} {H H' H2 : Hp} {o : HO} {S : List Addr}
theorem On.refl : On d H H := fun _ _ => rfl
theorem On.trans (h : On d H H') (k : On d H' H2) : On d H H2 := fun b n => (k b n).trans (h b n)
theorem On.upd : On d H (upd H d o) := fun b n => upd_ne n
theorem On.fr (h : On d H H') : Fr [d] H H' := fun a u n e => by
  rw [h a (by simpa using n)]
  exact e
theorem On.frS (h : On d H H') (m : d ∈ S) : Fr S H H' := h.fr.mono fun a k => by
  rw [show a = d by simpa using k]
  exact m
theorem Dk.hd (h : Dk d s ns H) : H d ≠ none := by
  obtain ⟨_, _, _, _, _, e, _⟩ := h
  rw [e]
  simp
theorem Dk.hs (h : Dk d s ns H) : H s ≠ none := by
  obtain ⟨_, e, _⟩ := h
  rw [e]
  simp
theorem Dk.fr (h : Dk d s ns H) (e : Fr S H H') (h1 : d ∉ S) (h2 : s ∉ S) : Dk d s ns H' := by
  obtain ⟨a, b, p, r, q, c, e0⟩ := h
  exact ⟨a, e _ _ h2 b, p, r, q, e _ _ h1 c, e0⟩
theorem Dk.same (h : Dk d s ns H) (e : Same H H') : Dk d s ns H' := h.fr (S := []) (Fr.same e) (by simp) (by simp)
theorem Dk.put (h : Dk d s ns H) (hD : D ≠ d) (hs : D ≠ s) : Dk d s ns (upd H D o) := h.fr (S := [D]) (Fr.upd (by simp)) (by simpa using hD.symm) (by simpa using hs.symm)
theorem Dk.ned (h : Dk d s ns H) (hD : H D = none) : D ≠ d := fun e => h.hd (e ▸ hD)
theorem Dk.nes (h : Dk d s ns H) (hD : H D = none) : D ≠ s := fun e => h.hs (e ▸ hD)
end
def spDk (K : PySem.W.Frag) : Sp := fun vs H Q _ => ∃ (a : Addr) (ns : List Int), vs = [.ref a] ∧ SqL K H a (ns.map V.int) ∧ ∀ d s H', Same H H' → Dk d s ns H' → Q (.ref d) H'
def spDr : Sp := fun vs H Q _ => ∃ (d s : Addr) (ns : List Int) (m : Int), vs = [.ref d, .int m] ∧ Dk d s ns H ∧ 0 < m ∧ m < 10 ^ 62 ∧ ∀ v H', 0 ≤ v → v < m → Dk d s ns H' → On d H H' → Q (.int v) H'
theorem dr_app {d s : Addr} {ns : List Int} {m : Int} {H : Hp} {Q : VK} {E : XK} (h : Dk d s ns H) (h1 : 0 < m) (h2 : m < 10 ^ 62) (k : ∀ v H', 0 ≤ v → v < m → Dk d s ns H' → On d H H' → Q (.int v) H') : spDr [.ref d, .int m] H Q E := ⟨d, s, ns, m, rfl, h, h1, h2, k⟩
/-- how far a point lies -/
def PtIn (b : Int) (p : Pt) : Prop := -b ≤ p.1 ∧ p.1 ≤ b ∧ -b ≤ p.2.1 ∧ p.2.1 ≤ b
def spPt : Sp := fun vs H Q _ => ∃ (S : List Addr) (d s : Addr) (ns : List Int) (far : Int), vs = [.ref d, .int far] ∧ d ∈ S ∧ Al S H ∧ Dk d s ns H ∧ 130 ≤ far ∧ far ≤ 10 ^ 6 ∧
  ∀ t H' p, Fr [d] H H' → Dk d s ns H' → Dq S H' (.ref t) (ptD p) → PtIn far p → Q (.ref t) H'

/-! ### more readings -/
section
variable {σ : L2.St} {H H' H2 : Hp} {Q : VK} {v x y : V} {ta tb tc te : TE} {K : PySem.W.Frag} {p a b l : Addr} {xs zs : List V} {o : HO}
theorem raw_new (h : H p = none) (e : H a = some o) {u : HO} : upd H p u a = some o := Fl.Same.new h a o e
theorem raw_same (h : Same H H') (e : H a = some o) : H' a = some o := h a o e
theorem none_upd {u : HO} (h : H p = none) (n : p ≠ a) : upd H a u p = none := by rw [upd_ne n]; exact h
theorem Dq.newH {S : List Addr} {d : PyData} {u : HO} (e : H p = none) (h : Dq S H v d) : Dq S (upd H p u) v d := h.same (Fl.Same.new e)
theorem DqA.newH {S : List Addr} {vs : List V} {ds : List PyData} {u : HO} (e : H p = none) (h : DqA S H vs ds) : DqA S (upd H p u) vs ds := h.same (Fl.Same.new e)
theorem Al.newH {S : List Addr} {u : HO} (e : H p = none) (h : Al S H) : Al S (upd H p u) := h.same (Fl.Same.new e)
theorem g_sl {r : V → Option Int → Option Int → Hp → VK → Prop} {tl th : TO} (h : te σ H fun x H1 => tl σ H1 fun l H2 => th σ H2 fun u H3 => r x l u H3 Q) : L2.tSl r te tl th σ H Q := h
theorem g_part {QO : Option Int → Hp → Prop} (h : te σ H fun x H1 => ∃ i, x = .int i ∧ QO (some i) H1) : tPart te σ H QO := h
theorem g_nop {QO : Option Int → Hp → Prop} (h : QO none H) : tNoPart σ H QO := h
theorem g_ei {i : Int} {R : Int → Prop} (q : R i) : ∃ j, V.int i = .int j ∧ R j := ⟨i, rfl, q⟩
theorem g_slL {lo hi : Option Int} (h : SqL K H a xs) (q : ∀ p, H p = none → Q (.ref p) (upd H p (.lst (cutV xs lo hi)))) : rSlL K (.ref a) lo hi H Q := ⟨a, xs, rfl, h, q⟩
theorem g_slT {lo hi : Option Int} (h : SqT K H a xs) (n : ¬ (HT.sIx xs.length 0 lo = 0 ∧ HT.sIx xs.length xs.length hi = xs.length)) (q : ∀ p, H p = none → Q (.ref p) (upd H p (.tup (cutV xs lo hi)))) : rSlT K (.ref a) lo hi H Q := ⟨a, xs, rfl, h, n, q⟩
theorem cut_from (k : Nat) : cutV xs (some (k : Int)) none = xs.drop k := by
  show (xs.drop (HT.sIx xs.length 0 (some (k : Int)))).take (HT.sIx xs.length xs.length none - HT.sIx xs.length 0 (some (k : Int))) = _
  rw [HT.sIx_nat, HT.sIx_none]
  rcases Nat.le_total k xs.length with h | h
  · rw [Nat.min_eq_left h, List.take_of_length_le (by rw [List.length_drop]; omega)]
  · rw [Nat.min_eq_right h, Nat.sub_self, List.take_zero, List.drop_of_length_le h]
theorem cut_to (k : Nat) : cutV xs none (some (k : Int)) = xs.take k := by
  show (xs.drop (HT.sIx xs.length 0 none)).take (HT.sIx xs.length xs.length (some (k : Int)) - HT.sIx xs.length 0 none) = _
  rw [HT.sIx_nat, HT.sIx_none, List.drop_zero, Nat.sub_zero]
  rcases Nat.le_total k xs.length with h | h
  · rw [Nat.min_eq_left h]
  · rw [Nat.min_eq_right h, List.take_of_length_le (Nat.le_refl _), List.take_of_length_le h]
theorem cut_last : cutV xs none (some (-1)) = xs.dropLast := by
  show (xs.drop (HT.sIx xs.length 0 none)).take (HT.sIx xs.length xs.length (some (-1)) - HT.sIx xs.length 0 none) = _
  rw [HT.sIx_none, List.drop_zero, Nat.sub_zero, List.dropLast_eq_take]
  congr 1
  show (if (-1 : Int) < 0 then ((-1 : Int) + (xs.length : Int)).toNat else min (-1 : Int).toNat xs.length) = _
  rw [if_pos (by decide)]
  omega
theorem cut_fromLast : cutV xs (some (-1)) none = xs.drop (xs.length - 1) := by
  show (xs.drop (HT.sIx xs.length 0 (some (-1)))).take (HT.sIx xs.length xs.length none - HT.sIx xs.length 0 (some (-1))) = _
  have e : HT.sIx xs.length 0 (some (-1)) = xs.length - 1 := by
    show (if (-1 : Int) < 0 then ((-1 : Int) + (xs.length : Int)).toNat else min (-1 : Int).toNat xs.length) = _
    rw [if_pos (by decide)]
    omega
  rw [e, HT.sIx_none, List.take_of_length_le (by rw [List.length_drop]; omega)]
theorem g_cat (h1 : H l = some (.lst xs)) (h2 : H b = some (.lst zs)) (hz : xs.length + zs.length ≤ 2000) (q : ∀ p, H p = none → Q (.ref p) (upd H p (.lst (xs ++ zs)))) : rCat (.ref l) (.ref b) H Q :=
  ⟨l, b, xs, zs, rfl, rfl, h1, h2, Nat.le_trans hz (by decide), q⟩
end
/-! promises about outlines -/
def beg (c : List α) (k : Nat) : List α := c.drop k ++ c.take k
def fBeg (ds : List PyData) (d : PyData) : Prop := ∃ (c : List PyData) (k : Nat), ds = [.list c, .int (k : Int)] ∧ c.length ≤ 900 ∧ d = .list (beg c k)

section
variable {d s D : Addr} {ns : List Int} {H H' H1 H2 : Hp} {o : HO} {S : List Addr} {a : Addr} {v : V} {e : PyData}
theorem raw_on (h : On d H H') (n : a ≠ d) (e : H a = some o) : H' a = some o := by rw [h a n]; exact e
theorem raw_frd (h : Fr [d] H H') (n : a ≠ d) (e : H a = some o) : H' a = some o := h a o (by simpa using n) e
theorem Dq.frd (h : Fr [d] H H') (m : d ∈ S) (k : Dq S H v e) : Dq S H' v e := k.fr (h.mono fun a q => by
  rw [show a = d by simpa using q]
  exact m)
theorem Al.frd (h : Fr [d] H H') (k : Dk d s ns H') (q : Al S H) : Al S H' := q.fr h (.cons k.hd .nil)
theorem spread_at {v far : Int} (h0 : 0 ≤ v) (h1 : v < 3) (hf : 130 ≤ far) : ∃ sp : Int, atI [V.int 9, V.int 130, V.int far] v = some (.int sp) ∧ 9 ≤ sp ∧ sp ≤ far := by
  rcases (by omega : v = 0 ∨ v = 1 ∨ v = 2) with rfl | rfl | rfl
  · exact ⟨9, rfl, by omega, by omega⟩
  · exact ⟨130, rfl, by omega, by omega⟩
  · exact ⟨far, rfl, by omega, by omega⟩
theorem pt_app {far : Int} {Q : VK} {E : XK} (S : List Addr) (h1 : d ∈ S) (h2 : Al S H) (h3 : Dk d s ns H) (h4 : 130 ≤ far) (h5 : far ≤ 10 ^ 6) (q : ∀ t H' p, Fr [d] H H' → Dk d s ns H' → Dq S H' (.ref t) (ptD p) → PtIn far p → Q (.ref t) H') : spPt [.ref d, .int far] H Q E :=
  ⟨S, d, s, ns, far, rfl, h1, h2, h3, h4, h5, q⟩
/-- the list of points D at turn i -/
structure PtsAt (S : List Addr) (H1 : Hp) (d s : Addr) (ns : List Int) (far : Int) (D : Addr) (i : Nat) (H : Hp) : Prop where
  ex : ∃ (acc : List V) (c : List Pt), H D = some (.lst acc) ∧ DqA (D :: S) H acc (c.map ptD) ∧ c.length = i ∧ ∀ p, p ∈ c → PtIn far p
  fr : Fr [D, d] H1 H
  dk : Dk d s ns H
/-- [point for j in range(n)], points drawn from the deck at d -/
theorem lcDk {n : Nat} {lo far : Int} {g : TG} {te : TE} {vs : List Nat} {σ : L2.St} {Q : VK} (hS : Al S H1) (hd : d ∈ S) (hk : Dk d s ns H1) (hz : n < 1000)
    (step : ∀ (D : Addr) (i : Nat) (H : Hp), Al (D :: S) H → Dk d s ns H →
      ∀ (R : V → Hp → Prop), (∀ t H' p, Fr [d] H H' → Dk d s ns H' → Dq (D :: S) H' (.ref t) (ptD p) → PtIn far p → R (.ref t) H') →
      g (.int (lo + i)) (wipe σ vs) H fun σ2 H2 => wipe σ2 vs = wipe σ vs ∧ te σ2 H2 R)
    (q : ∀ (D : Addr) (H : Hp) (c : List Pt), Fr [d] H1 H → Dk d s ns H → Dq S H (.ref D) (ctD c) → c.length = n → (∀ p, p ∈ c → PtIn far p) → Q (.ref D) H)
    (gm : ∀ x σ' H' (Q1 Q2 : L2.St → Hp → Prop), (∀ s h, Q1 s h → Q2 s h) → g x σ' H' Q1 → g x σ' H' Q2) :
    lcK (Itr lo n) g tYes te vs σ H1 Q := by
  unfold lcK
  intro D hD
  have hnd : D ≠ d := hk.ned hD
  have hns : D ≠ s := hk.nes hD
  refine lc_range (PtsAt S H1 d s ns far D) ⟨⟨[], [], upd_same, .nil, rfl, fun _ m => nomatch m⟩, Fr.same (Fl.Same.new hD), hk.put hnd hns⟩ ?_ ?_
  · intro i H hlt h
    obtain ⟨⟨acc, c, hacc, hA, hl, hp⟩, hf, hk'⟩ := h
    have hAl : Al (D :: S) H := .cons (by rw [hacc]; simp) (hS.fr hf fun b m => by
      rcases List.mem_cons.mp m with rfl | m
      · rw [hacc]; simp
      · rw [show b = d by simpa using m]
        exact hk'.hd)
    refine gm _ _ _ _ _ (fun σ2 H2 hq => ⟨hq.1, ?_⟩) (step D i H hAl hk' (fun y H4 => ∃ acc, H4 D = some (.lst acc) ∧ acc.length < sizeLine ∧ PtsAt S H1 d s ns far D (i + 1) (upd H4 D (.lst (acc ++ [y])))) ?_)
    · exact hq.2
    · intro t H' p f k dq hp'
      have f' : Fr (D :: S) H H' := f.mono fun b m => by
        rw [show b = d by simpa using m]
        exact List.mem_cons_of_mem _ hd
      refine ⟨acc, f D _ (by simpa using hnd) hacc, ?_, ⟨acc ++ [.ref t], c ++ [p], upd_same, ?_, ?_, ?_⟩, ?_, ?_⟩
      · have := hA.len
        rw [List.length_map] at this
        have : (1000 : Nat) ≤ sizeLine := by decide
        omega
      · rw [List.map_append]
        exact ((hA.fr f').app (.one dq)).fr (Fr.upd (by simp))
      · rw [List.length_append, hl]
        rfl
      · intro p2 m
        rcases List.mem_append.mp m with m | m
        · exact hp p2 m
        · rw [show p2 = p by simpa using m]
          exact hp'
      · exact (hf.trans (f.mono fun b m => by simpa using Or.inr (show b = d by simpa using m))).trans (Fr.upd (by simp))
      · exact k.put hnd hns
  · intro H h
    obtain ⟨⟨acc, c, hacc, hA, hl, hp⟩, hf, hk'⟩ := h
    refine q D H c (fun b o n e => hf b o (fun m => ?_) e) hk' (.lst (hS.ni hD) hacc hA.tail) hl hp
    rcases List.mem_cons.mp m with rfl | m
    · rw [hD] at e; cases e
    · exact n m
/-- an outline that was drawn -/
structure OuIn (least : Nat) (far : Int) (o : List (List Pt)) : Prop where
  len : o.length ≤ 3
  cs : ∀ c, c ∈ o → least ≤ c.length ∧ c.length ≤ least + 5 ∧ ∀ p, p ∈ c → PtIn far p
end
def spOu : Sp := fun vs H Q _ => ∃ (d s : Addr) (ns : List Int) (least : Nat) (far : Int), vs = [.ref d, .int (least : Int), .int far] ∧ Dk d s ns H ∧ least ≤ 2 ∧ 130 ≤ far ∧ far ≤ 10 ^ 6 ∧
  ∀ t H' o, Fr [d] H H' → Dk d s ns H' → Dq [d] H' (.ref t) (ouD o) → OuIn least far o → Q (.ref t) H'
theorem g_sz {n : Nat} {A : Prop} (hn : n ≤ 1000) (h : A) : n ≤ sizeLine ∧ A := ⟨Nat.le_trans hn (by decide), h⟩
section
variable {σ : L2.St} {H : Hp} {te : TE} {D : Ends} {g : TG} {tb : TS}
/-- for _ in range(n): the number first, then the turns (te keeps its continuation: what it gives is put into te's own reading) -/
theorem g_forR_ (Pv : Nat → L2.St → Hp → Prop)
    (h : te σ H fun x H1 => ∃ n : Int, x = .int n ∧ -(2 ^ 62) ≤ n ∧ n < 2 ^ 62 ∧ Pv 0 σ H1 ∧ (∀ (i : Nat) σ' H', (i : Int) < n → Pv i σ' H' → g (.int (i : Int)) σ' H' fun σ2 H2 => tb { D with nx := Pv (i + 1), ct := Pv (i + 1), bk := D.nx } σ2 H2) ∧ ∀ σ' H', Pv n.toNat σ' H' → D.nx σ' H')
    (mono : ∀ Q Q' : VK, (∀ x H1, Q x H1 → Q' x H1) → te σ H Q → te σ H Q') : tFor (iRng1 (tCons te tNil)) g tb D σ H := by
  refine mono _ _ (fun x H1 q => ?_) h
  obtain ⟨n, rfl, h1, h2, p, hs, hd⟩ := q
  show ∃ j : Int, [V.int n] = [V.int j] ∧ _
  refine ⟨n, rfl, h1, h2, for_range Pv p (fun i σ' H' hi p' => ?_) hd⟩
  have e0 : (0 : Int) + (i : Int) = (i : Int) := Int.zero_add _
  rw [e0]
  exact hs i σ' H' (by omega) p'
end
section
variable {S : List Addr} {d s p : Addr} {ns : List Int} {H H' H2 : Hp} {v : V} {e : PyData} {u o : HO} {vs : List V} {es : List PyData}
theorem Dk.newH (h : H p = none) (k : Dk d s ns H) : Dk d s ns (upd H p u) := k.same (Fl.Same.new h)
theorem Dk.sm (h : Same H H') (k : Dk d s ns H) : Dk d s ns H' := k.same h
theorem Dq.sm (h : Same H H') (k : Dq S H v e) : Dq S H' v e := k.same h
theorem DqA.sm (h : Same H H') (k : DqA S H vs es) : DqA S H' vs es := k.same h
theorem Al.sm (h : Same H H') (k : Al S H) : Al S H' := k.same h
theorem Dq.ond (h : On d H H') (m : d ∈ S) (k : Dq S H v e) : Dq S H' v e := Dq.frd h.fr m k
theorem Al.ond (h : On d H H') (k : Dk d s ns H') (q : Al S H) : Al S H' := Al.frd h.fr k q
theorem Same.newT (h : H2 p = none) (k : Same H H2) : Same H (upd H2 p u) := L2.Same.trans k (Fl.Same.new h)
theorem Same.sm (h : Same H2 H') (k : Same H H2) : Same H H' := L2.Same.trans k h
theorem Fr.newT (h : H2 p = none) (k : Fr S H H2) : Fr S H (L2.upd H2 p u) := k.trans (Fr.new h)
theorem Fr.ond (h : On d H2 H') (k : Fr [d] H H2) : Fr [d] H H' := k.trans h.fr
theorem Fr.smT (h : Same H2 H') (k : Fr S H H2) : Fr S H H' := k.trans (Fr.same h)
theorem Fr.frT (h : Fr S H2 H') (k : Fr S H H2) : Fr S H H' := k.trans h
end
theorem Dk.ned2 {d s D : Addr} {ns : List Int} {H : Hp} (hD : H D = none) (h : Dk d s ns H) : D ≠ d := h.ned hD
theorem g_name {i : Nat} {v : V} {σ : L2.St} {H : Hp} {Q : L2.St → Hp → Prop} (q : Q (σ.set i (some v)) H) : gName i v σ H Q := q
theorem g_bm {K : PySem.W.Frag} {T : String} {r : V → List V → Hp → VK → Prop} {to : TE} {t : TA} {σ : L2.St} {H : Hp} {Q : VK} (h : to σ H fun x H1 => tyV K T x H1 ∧ t σ H1 fun xs H2 => r x xs H2 Q) : tBM K T r to t σ H Q := h
theorem g_app {l : Addr} {xs : List V} {y : V} {H : Hp} {Q : VK} (h : H l = some (.lst xs)) (hz : xs.length < 2000) (q : Q .non (upd H l (.lst (xs ++ [y])))) : rAppend (.ref l) [y] H Q := ⟨l, xs, y, rfl, rfl, h, Nat.lt_of_lt_of_le hz (by decide), q⟩
theorem g_ext {l b : Addr} {xs zs : List V} {H : Hp} {Q : VK} (h : H l = some (.lst xs)) (h2 : H b = some (.lst zs)) (hz : xs.length + zs.length ≤ 2000) (q : Q .non (upd H l (.lst (xs ++ zs)))) : rExtend (.ref l) [.ref b] H Q := ⟨l, b, xs, zs, rfl, rfl, h, h2, Nat.le_trans hz (by decide), q⟩
section
variable {K : PySem.W.Frag} {σ : L2.St} {H H1 : Hp} {Q : VK} {g : TG} {tt : TT} {te tx ty : TE} {tb : TS} {vs : List Nat} {D : Ends} {wi : TI} {R : It → Hp → Prop} {a b : Addr} {xs ys : List V}
theorem g_tyL {A : Prop} (h : SqL K H a xs) (q : A) : tyV K "list" (.ref a) H ∧ A := ⟨.inl ⟨rfl, _, h⟩, q⟩
theorem g_lc (h : wi σ H fun J H1 => lcK J g tt te vs σ H1 Q) : tLc wi g tt te vs σ H Q := h
theorem g_for (h : wi σ H fun J H1 => forK J g tb D σ H1) : tFor wi g tb D σ H := h
theorem g_rng1 (h : te σ H fun x H1 => ∃ j : Int, [x] = [V.int j] ∧ -(2 ^ 62) ≤ j ∧ j < 2 ^ 62 ∧ R (Itr 0 j.toNat) H1) : iRng1 (tCons te tNil) σ H R := h
theorem g_rng2 (h : tx σ H fun x H1 => ty σ H1 fun y H2 => ∃ i j : Int, [x, y] = [V.int i, V.int j] ∧ (-(2 ^ 62) ≤ i ∧ i < 2 ^ 62 ∧ -(2 ^ 62) ≤ j ∧ j < 2 ^ 62) ∧ R (Itr i (j - i).toNat) H2) : iRng2 (tCons tx (tCons ty tNil)) σ H R := h
theorem g_e1 {n : Int} {Z : Int → Prop} (h1 : -(2 ^ 62) ≤ n) (h2 : n < 2 ^ 62) (q : Z n) : ∃ j : Int, [V.int n] = [V.int j] ∧ -(2 ^ 62) ≤ j ∧ j < 2 ^ 62 ∧ Z j := ⟨n, rfl, h1, h2, q⟩
theorem g_e2 {i j : Int} {Z : Int → Int → Prop} (h : -(2 ^ 62) ≤ i ∧ i < 2 ^ 62 ∧ -(2 ^ 62) ≤ j ∧ j < 2 ^ 62) (q : Z i j) : ∃ k l : Int, [V.int i, V.int j] = [V.int k, V.int l] ∧ (-(2 ^ 62) ≤ k ∧ k < 2 ^ 62 ∧ -(2 ^ 62) ≤ l ∧ l < 2 ^ 62) ∧ Z k l := ⟨i, j, rfl, h, q⟩
theorem g_il (h : te σ H fun x H1 => ∃ a, x = .ref a ∧ (∃ xs, SqL K H1 a xs) ∧ R (Itl K a) H1) : iList K te σ H R := h
theorem g_el {Z : Addr → Prop} (h : SqL K H a xs) (q : Z a) : ∃ c, V.ref a = .ref c ∧ (∃ xs, SqL K H c xs) ∧ Z c := ⟨a, rfl, ⟨xs, h⟩, q⟩
theorem g_zip (h : tx σ H fun x H1 => ty σ H1 fun y H2 => ∃ a b xs ys, [x, y] = [V.ref a, V.ref b] ∧ SqL K H2 a xs ∧ SqL K H2 b ys ∧ R (Itz K a b) H2) : iZip K (tCons tx (tCons ty tNil)) σ H R := h
theorem g_ez {Z : Addr → Addr → Prop} (h1 : SqL K H a xs) (h2 : SqL K H b ys) (q : Z a b) : ∃ c d zs ws, [V.ref a, V.ref b] = [V.ref c, V.ref d] ∧ SqL K H c zs ∧ SqL K H d ws ∧ Z c d := ⟨a, b, xs, ys, rfl, h1, h2, q⟩
theorem forK_r {lo : Int} {n : Nat} (Pv : Nat → L2.St → Hp → Prop) (h0 : Pv 0 σ H)
    (hs : ∀ i σ H, i < n → Pv i σ H → g (.int (lo + i)) σ H fun σ2 H2 => tb { D with nx := Pv (i + 1), ct := Pv (i + 1), bk := D.nx } σ2 H2) (hd : ∀ σ H, Pv n σ H → D.nx σ H) : forK (Itr lo n) g tb D σ H := for_range Pv h0 hs hd
theorem forK_l (Pv : Nat → L2.St → Hp → Prop) (h0 : Pv 0 σ H) (hl : ∀ i σ H, i ≤ xs.length → Pv i σ H → SqL K H a xs)
    (hs : ∀ i x σ H, xs[i]? = some x → Pv i σ H → g x σ H fun σ2 H2 => tb { D with nx := Pv (i + 1), ct := Pv (i + 1), bk := D.nx } σ2 H2) (hd : ∀ σ H, Pv xs.length σ H → D.nx σ H) : forK (Itl K a) g tb D σ H := for_list Pv h0 hl hs hd
theorem forK_z (hl : xs.length = ys.length) (Pv : Nat → L2.St → Hp → Prop) (h0 : Pv 0 σ H) (hq : ∀ i σ H, Pv i σ H → SqL K H a xs ∧ SqL K H b ys)
    (hs : ∀ (i : Nat) (x y : V) (T : Addr) (σ : L2.St) (H : Hp), xs[i]? = some x → ys[i]? = some y → Pv i σ H → H T = none → g (.ref T) σ (upd H T (.tup [x, y])) fun σ2 H2 => tb { D with nx := Pv (i + 1), ct := Pv (i + 1), bk := D.nx } σ2 H2)
    (hd : ∀ σ H, Pv xs.length σ H → D.nx σ H) : forK (Itz K a b) g tb D σ H := RZ.for_zipL hl Pv h0 hq hs hd
end
section
variable {K : PySem.W.Frag} {H : Hp} {Q : VK} {a : Addr} {xs : List V} {x y z : V}
theorem g_slF {k : Nat} (h : SqL K H a xs) (q : ∀ p, H p = none → Q (.ref p) (upd H p (.lst (xs.drop k)))) : rSlL K (.ref a) (some (k : Int)) none H Q := g_slL h (by rw [cut_from]; exact q)
theorem g_slF1 (h : SqL K H a xs) (q : ∀ p, H p = none → Q (.ref p) (upd H p (.lst (xs.drop 1)))) : rSlL K (.ref a) (some 1) none H Q := g_slF (k := 1) h q
theorem g_slTo {k : Nat} (h : SqL K H a xs) (q : ∀ p, H p = none → Q (.ref p) (upd H p (.lst (xs.take k)))) : rSlL K (.ref a) none (some (k : Int)) H Q := g_slL h (by rw [cut_to]; exact q)
theorem g_slT1 (h : SqL K H a xs) (q : ∀ p, H p = none → Q (.ref p) (upd H p (.lst (xs.take 1)))) : rSlL K (.ref a) none (some 1) H Q := g_slTo (k := 1) h q
theorem g_slB (h : SqL K H a xs) (q : ∀ p, H p = none → Q (.ref p) (upd H p (.lst xs.dropLast))) : rSlL K (.ref a) none (some (-1)) H Q := g_slL h (by rw [cut_last]; exact q)
theorem g_slE (h : SqL K H a xs) (q : ∀ p, H p = none → Q (.ref p) (upd H p (.lst (xs.drop (xs.length - 1))))) : rSlL K (.ref a) (some (-1)) none H Q := g_slL h (by rw [cut_fromLast]; exact q)
theorem g_sl2 (h : SqT K H a [x, y, z]) (q : ∀ p, H p = none → Q (.ref p) (upd H p (.tup [x, y]))) : rSlT K (.ref a) none (some 2) H Q := g_slT h (by show ¬ (0 = 0 ∧ 2 = 3); decide) q
end
/-- a global number -/
theorem pe_gv {X : Cx} {x : Str} {pos : Pos} {v : V} (g : Gl X x) (h : ∃ u, X.mg x = some u ∧ RelV v u)
    (n : (x == ("__debug__" : Str)) = false := by decide) : PE X (.Name x pos) (tC v) := pe_glob g h.choose_spec.1 h.choose_spec.2 n
/-! the rules whose readings name the written part, for blocks within defs -/
section
variable {X : Cx} {K : PySem.W.Frag}
theorem ixT (e : X.K = K) : IxR X (rIxT K) := by subst e; exact ix_tup
theorem ixL (e : X.K = K) : IxR X (rIxL K) := by subst e; exact ix_list
theorem slL' (e : X.K = K) : SlR X (rSlL K) := by subst e; exact sl_list
theorem slT' (e : X.K = K) : SlR X (rSlT K) := by subst e; exact sl_tup
theorem clLen (e : X.K = K) : CallR X (.builtin "len") (Fl.rLen K) := by subst e; exact call_len'
theorem clList (e : X.K = K) : CallR X (.type "list") (Fl.rList K) := by subst e; exact call_list'
theorem clIsi (e : X.K = K) : CallR X (.builtin "isinstance") (rIsi K) := by subst e; exact call_isi
theorem opEqD (e : X.K = K) (hu : X.A.units + 64 < cLine) : OpR X (compareOp .Eq) (rEqD K) := by subst e; exact op_eqD hu
theorem opNeD (e : X.K = K) (hu : X.A.units + 64 < cLine) : OpR X (compareOp .NotEq) (rNeD K) := by subst e; exact op_neD hu
theorem opIn (e : X.K = K) : OpR X (compareOp .In) (rIn K false) := by subst e; exact op_in_seq
theorem opNotIn (e : X.K = K) : OpR X (compareOp .NotIn) (rIn K true) := by subst e; exact op_notIn_seq
def tTru (K : PySem.W.Frag) (ta : TE) : TT := fun σ H Q => ta σ H fun x H' => ∃ k, TruV K x H' k ∧ Q k H'
theorem ptTru {a : Expr} {ta : TE} (e : X.K = K) (ha : PE X a ta) (he : ∀ whole, isTrue a X.env whole = (do let v ← whole; standAt a.pos; holding [v] (truthy v))) : PT X a (tTru K ta) := by subst e; exact pt_truth ha he
theorem piL {l tg : Expr} {tl : TE} (e : X.K = K) (h : PE X l tl) : PI X tg l (iList K tl) := by subst e; exact pi_list h
theorem piT {l tg : Expr} {tl : TE} (e : X.K = K) (h : PE X l tl) : PI X tg l (iTup K tl) := by subst e; exact pi_tup h
theorem pgT {es : List Expr} {j : Nat} {t : TGs} {n : Nat} {pos : Pos} (e : X.K = K) (hc : X.calm = true) (h : PGs X es t)
    (hn : (assignEach es X.env).length = n := by rfl)
    (hst : (assignEach es X.env).findIdx? (·.1) = none := by rfl) : PG X (.Tuple es j pos) (gTup K n t) := by subst e; exact pg_tup hc h hn hst
theorem g_gtup {n : Nat} {t : TGs} {a : Addr} {xs : List V} {σ : L2.St} {H : Hp} {Q : L2.St → Hp → Prop} (h : SqT K H a xs) (e : xs.length = n) (q : t xs σ H Q) : gTup K n t (.ref a) σ H Q := ⟨a, xs, rfl, h, e, q⟩
theorem g_gcons {t : TG} {u : TGs} {v : V} {r : List V} {σ : L2.St} {H : Hp} {Q : L2.St → Hp → Prop} (q : t v σ H fun σ' H' => u r σ' H' Q) : gCons t u (v :: r) σ H Q := ⟨v, r, rfl, q⟩
theorem g_gnil {σ : L2.St} {H : Hp} {Q : L2.St → Hp → Prop} (q : Q σ H) : gNil [] σ H Q := ⟨rfl, q⟩
theorem g_truL {a : Addr} {xs : List V} {te : TE} {σ : L2.St} {H : Hp} {Q : Bool → Hp → Prop} (h : te σ H fun x H' => ∃ k, TruV K x H' k ∧ Q k H') : tTru K te σ H Q := h
end
theorem g_yes {te : TE} {R : VK} {N : Hp → Prop} {σ : L2.St} {H : Hp} (h : te σ H R) : tYes σ H fun b H3 => if b = true then te σ H3 R else N H3 := h
theorem fm_all {rs : List PyData} {n : Nat} (h : rs.length ≤ n) : (List.range n).filterMap (fun i => rs[i]?) = rs := by rw [fm_take, List.take_of_length_le h]
theorem DqA.getM {α : Type} {f : α → PyData} {S : List Addr} {H : Hp} {vs : List V} {c : List α} {i : Nat} {x : V} (h : DqA S H vs (c.map f)) (e : vs[i]? = some x) : ∃ p, c[i]? = some p ∧ Dq S H x (f p) := by
  obtain ⟨d, h1, h2⟩ := h.get e
  rw [List.getElem?_map] at h1
  cases hc : c[i]? with
  | none => rw [hc] at h1; cases h1
  | some p =>
    rw [hc] at h1
    cases h1
    exact ⟨p, rfl, h2⟩
theorem take_zip {α β : Type} {l : List α} {m : List β} {i : Nat} {x : α} {y : β} (h1 : l[i]? = some x) (h2 : m[i]? = some y) : (l.zip m).take (i + 1) = (l.zip m).take i ++ [(x, y)] := by
  rw [List.take_succ, (List.getElem?_zip_eq_some (z := (x, y))).mpr ⟨h1, h2⟩]
  rfl
theorem g_tru {K : PySem.W.Frag} {te : TE} {σ : L2.St} {H : Hp} {Q : Bool → Hp → Prop} (h : te σ H fun x H' => ∃ k, TruV K x H' k ∧ Q k H') : tTru K te σ H Q := h
theorem g_tru0 {K : PySem.W.Frag} {a : Addr} {H : Hp} {Z : Bool → Prop} (h : SqL K H a []) (q : Z false) : ∃ k, TruV K (.ref a) H k ∧ Z k := ⟨_, .inl ⟨_, h, rfl⟩, q⟩
theorem g_tru1 {K : PySem.W.Frag} {a : Addr} {x : V} {xs : List V} {H : Hp} {Z : Bool → Prop} (h : SqL K H a (x :: xs)) (q : Z true) : ∃ k, TruV K (.ref a) H k ∧ Z k := ⟨_, .inl ⟨_, h, rfl⟩, q⟩
theorem at0 {x : V} {xs : List V} : atI (x :: xs) 0 = some x := atI_nat (j := 0) rfl
theorem DqA.dl {S : List Addr} {H : Hp} {vs : List V} {ds : List PyData} (h : DqA S H vs ds) : DqA S H vs.dropLast ds.dropLast := by
  rw [List.dropLast_eq_take, List.dropLast_eq_take, h.len]
  exact h.take _
theorem dk_app {K : PySem.W.Frag} {a : Addr} {ns : List Int} {H : Hp} {Q : VK} {E : XK} (h : SqL K H a (ns.map V.int)) (k : ∀ d s H', Same H H' → Dk d s ns H' → Q (.ref d) H') : spDk K [.ref a] H Q E := ⟨a, ns, rfl, h, k⟩
def spLaw (K : PySem.W.Frag) : Sp := fun vs H Q _ => ∃ (a : Addr) (ns : List Int), vs = [.ref a] ∧ SqL K H a (ns.map V.int) ∧ ns.length ≤ 63 ∧ ∀ H', Q (.bl true) H'
theorem g_nn {A : Prop} (h : A) : V.non = V.non ∧ A := ⟨rfl, h⟩
end Fl

set_option Elab.async false
set_option linter.all false
set_option maxRecDepth 100000
set_option maxHeartbeats 4000000
/-! lines of contours: the mathematics -/
namespace Fl
open PySem PySem.Spec PyProof.Rows L2

abbrev Pr := Int × Int
def prD (p : Pr) : PyData := .tuple [.int p.1, .int p.2]
def lnD (l : List Pr) : PyData := .list (l.map prD)
def lsD (ls : List (List Pr)) : PyData := .list (ls.map lnD)
def pr (p : Pt) : Pr := (p.1, p.2.1)
def mid (p q : Pt) : Pt := ((p.1 + q.1) / 2, (p.2.1 + q.2.1) / 2, true)
def w1 (p q : Pt) : List Pt := if p.2.2 = true then [p] else if q.2.2 = true then [p] else [p, mid p q]
/-- a path and the point behind it, with its middle points -/
def wp : List Pt → Pt → List Pt
  | [], _ => []
  | [p], nx => w1 p nx
  | p :: q :: l, nx => w1 p q ++ wp (q :: l) nx
def wm : List Pt → List Pt
  | [] => []
  | p :: l => wp (p :: l) p
def cv (n a c b : Int) : Int := ((8 - n) * (8 - n) * a + 2 * n * (8 - n) * c + n * n * b + 32) / 64
def cp (a c b : Pt) (n : Nat) : Pr := (cv (n + 1) a.1 c.1 b.1, cv (n + 1) a.2.1 c.2.1 b.2.1)
def cvs (a c b : Pt) : List Pr := (List.range 8).map (cp a c b)
def cv7 (a c b : Pt) : List Pr := (List.range 7).map (cp a c b)
theorem cv_end (a c b : Int) : cv 8 a c b = b := by
  show ((8 - 8) * (8 - 8) * a + 2 * 8 * (8 - 8) * c + 8 * 8 * b + 32) / 64 = b
  omega
theorem cvs_eq (a c b : Pt) : cvs a c b = cv7 a c b ++ [pr b] := by
  have e : cp a c b 7 = pr b := Prod.ext (cv_end _ _ _) (cv_end _ _ _)
  rw [← e]
  rfl
/-- what the walk along a closed ring gives at a point -/
def s1 (a p b : Pt) : List Pr := if p.2.2 = true then (if b.2.2 = true then [pr b] else []) else cvs a p b
def e1 (a p b : Pt) : List Pr := if p.2.2 = true then [pr p] else cv7 a p b
def sp' : Pt → List Pt → List Pr
  | pv, p :: q :: l => s1 pv p q ++ sp' p (q :: l)
  | _, _ => []
def ep : Pt → List Pt → Pt → List Pr
  | _, [], _ => []
  | pv, [p], nx => e1 pv p nx
  | pv, p :: q :: l, nx => e1 pv p q ++ ep p (q :: l) nx
/-- no two neighbours are off -/
def Na : List Pt → Prop
  | p :: q :: l => (p.2.2 = true ∨ q.2.2 = true) ∧ Na (q :: l)
  | _ => True
theorem tele (h : Pt) (hh : h.2.2 = true) : ∀ (l : List Pt) (pv p : Pt), Na (p :: l ++ [h]) → (if p.2.2 = true then [pr p] else []) ++ sp' pv (p :: l ++ [h]) = ep pv (p :: l) h ++ [pr h]
  | [], pv, p, _ => by
    show (if p.2.2 = true then [pr p] else []) ++ (s1 pv p h ++ []) = e1 pv p h ++ [pr h]
    unfold s1 e1
    by_cases hp : p.2.2 = true
    · simp [hp, hh]
    · simp [hp, cvs_eq]
  | q :: l, pv, p, na => by
    have ih := tele h hh l p q na.2
    have hpq : p.2.2 = true ∨ q.2.2 = true := na.1
    show (if p.2.2 = true then [pr p] else []) ++ (s1 pv p q ++ sp' p (q :: l ++ [h])) = (e1 pv p q ++ ep p (q :: l) h) ++ [pr h]
    rw [List.append_assoc, ← ih]
    unfold s1 e1
    by_cases hp : p.2.2 = true
    · simp [hp]
    · have hq : q.2.2 = true := hpq.resolve_left hp
      simp [hp, hq, cvs_eq]

/-! by index -/
def p0 : Pt := (0, 0, false)
def st (pv : Pt) (cl : List Pt) (k : Nat) : List Pr := s1 (if k = 0 then pv else cl.getD (k - 1) p0) (cl.getD k p0) (cl.getD (k + 1) p0)
theorem st_sp : ∀ (l : List Pt) (pv p : Pt), (List.range l.length).flatMap (st pv (p :: l)) = sp' pv (p :: l)
  | [], _, _ => rfl
  | q :: l, pv, p => by
    have ih := st_sp l p q
    show (List.range (l.length + 1)).flatMap (st pv (p :: q :: l)) = s1 pv p q ++ sp' p (q :: l)
    rw [List.range_succ_eq_map, List.flatMap_cons, ← ih, List.flatMap_map]
    congr 1
    congr 1
    funext k
    cases k with
    | zero => rfl
    | succ k => rfl
def wz (c : List Pt) : List Pt := (c.zip (beg c 1)).flatMap fun z => w1 z.1 z.2
theorem wz_wp : ∀ (l : List Pt) (p nx : Pt), ((p :: l).zip (l ++ [nx])).flatMap (fun z => w1 z.1 z.2) = wp (p :: l) nx
  | [], _, _ => by simp [wp]
  | q :: l, p, nx => by
    have ih := wz_wp l q nx
    show w1 p q ++ ((q :: l).zip (l ++ [nx])).flatMap (fun z => w1 z.1 z.2) = w1 p q ++ wp (q :: l) nx
    rw [ih]
theorem wz_wm (c : List Pt) : wz c = wm c := by
  cases c with
  | nil => rfl
  | cons p l => exact wz_wp l p p
theorem w1_len (p q : Pt) : 1 ≤ (w1 p q).length ∧ (w1 p q).length ≤ 2 := by
  unfold w1
  split
  · simp
  · split <;> simp
theorem wp_len : ∀ (l : List Pt) (nx : Pt), l.length ≤ (wp l nx).length ∧ (wp l nx).length ≤ 2 * l.length
  | [], _ => ⟨Nat.le_refl _, Nat.le_refl _⟩
  | [p], nx => w1_len p nx
  | p :: q :: l, nx => by
    have ih := wp_len (q :: l) nx
    have := w1_len p q
    show _ ≤ (w1 p q ++ wp (q :: l) nx).length ∧ (w1 p q ++ wp (q :: l) nx).length ≤ _
    rw [List.length_append]
    simp only [List.length_cons] at *
    omega
theorem wm_len (c : List Pt) : c.length ≤ (wm c).length ∧ (wm c).length ≤ 2 * c.length := by
  cases c with
  | nil => exact ⟨Nat.le_refl _, Nat.le_refl _⟩
  | cons p l => exact wp_len _ _
theorem w1_head (p q : Pt) : ∃ t, w1 p q = p :: t := by
  unfold w1
  split
  · exact ⟨_, rfl⟩
  · split <;> exact ⟨_, rfl⟩
theorem wp_head (p : Pt) (l : List Pt) (nx : Pt) : ∃ t, wp (p :: l) nx = p :: t := by
  cases l with
  | nil => exact w1_head p nx
  | cons q l =>
    obtain ⟨t, e⟩ := w1_head p q
    refine ⟨t ++ wp (q :: l) nx, ?_⟩
    show w1 p q ++ _ = _
    rw [e]
    rfl
/-- in which box -/
def InB (P : Pt → Prop) : Prop := ∀ p q, P p → P q → P (mid p q)
theorem w1_in {P : Pt → Prop} (hP : InB P) {p q x : Pt} (hp : P p) (hq : P q) (m : x ∈ w1 p q) : P x := by
  unfold w1 at m
  split at m
  · rw [show x = p by simpa using m]; exact hp
  · split at m
    · rw [show x = p by simpa using m]; exact hp
    · rcases List.mem_cons.mp m with rfl | m
      · exact hp
      · rw [show x = mid p q by simpa using m]
        exact hP p q hp hq
theorem wp_in {P : Pt → Prop} (hP : InB P) : ∀ (l : List Pt) (nx : Pt), (∀ p, p ∈ l → P p) → P nx → ∀ x, x ∈ wp l nx → P x
  | [], _, _, _, _, m => nomatch m
  | [p], nx, h, hn, x, m => w1_in hP (h p (by simp)) hn m
  | p :: q :: l, nx, h, hn, x, m => by
    rcases List.mem_append.mp (show x ∈ w1 p q ++ wp (q :: l) nx from m) with m | m
    · exact w1_in hP (h p (by simp)) (h q (by simp)) m
    · exact wp_in hP (q :: l) nx (fun z mz => h z (List.mem_cons_of_mem _ mz)) hn x m
theorem wm_in {P : Pt → Prop} (hP : InB P) {c : List Pt} (h : ∀ p, p ∈ c → P p) : ∀ x, x ∈ wm c → P x := by
  cases c with
  | nil => intro x m; cases m
  | cons p l => exact wp_in hP _ _ h (h p (by simp))
theorem mem_beg {α : Type} {c : List α} {k : Nat} {x : α} : x ∈ beg c k ↔ x ∈ c := by
  unfold beg
  rw [List.mem_append]
  constructor
  · rintro (m | m)
    · exact List.mem_of_mem_drop m
    · exact List.mem_of_mem_take m
  · intro m
    rw [← List.take_append_drop k c] at m
    rcases List.mem_append.mp m with m | m
    · exact .inr m
    · exact .inl m
theorem beg_len {α : Type} (c : List α) (k : Nat) : (beg c k).length = c.length := by
  unfold beg
  rw [List.length_append, List.length_drop, List.length_take]
  omega
/-- the indexes of the points that are on -/
def ps (c : List Pt) : List Nat := (List.range c.length).filter fun i => (c.getD i p0).2.2
def ro (c : List Pt) : List Pt := match ps c with
  | [] => (wm c).drop ((wm c).length - 1) ++ (wm c).dropLast
  | k :: _ => wm (beg c k)
theorem inB_in (b : Int) : InB (PtIn b) := fun p q hp hq => by
  obtain ⟨h1, h2, h3, h4⟩ := hp
  obtain ⟨g1, g2, g3, g4⟩ := hq
  refine ⟨?_, ?_, ?_, ?_⟩
  · show -b ≤ (p.1 + q.1) / 2; omega
  · show (p.1 + q.1) / 2 ≤ b; omega
  · show -b ≤ (p.2.1 + q.2.1) / 2; omega
  · show (p.2.1 + q.2.1) / 2 ≤ b; omega
theorem ro_in {P : Pt → Prop} (hP : InB P) {c : List Pt} (h : ∀ p, p ∈ c → P p) : ∀ x, x ∈ ro c → P x := by
  intro x m
  unfold ro at m
  split at m
  · refine wm_in hP h x ?_
    rcases List.mem_append.mp m with m | m
    · exact List.mem_of_mem_drop m
    · exact List.dropLast_subset _ m
  · exact wm_in hP (fun p mp => h p (mem_beg.mp mp)) x m
theorem ro_len (c : List Pt) : (ro c).length ≤ 2 * c.length ∧ c.length ≤ (ro c).length := by
  unfold ro
  split
  · have := wm_len c
    rw [List.length_append, List.length_drop, List.length_dropLast]
    omega
  · rename_i k _ _
    have := wm_len (beg c k)
    rw [beg_len] at this
    omega
/-- the line of a contour -/
def lnOf (c : List Pt) : List Pr := match ro c with
  | [] => []
  | r :: l => (pr r :: (List.range (r :: l).length).flatMap (st p0 (r :: l ++ [r]))).dropLast
/-! promises -/
def fMid (ds : List PyData) (d : PyData) : Prop := ∃ p q : Pt, ds = [ptD p, ptD q] ∧ d = ptD (mid p q)
def spCv : Sp := fun vs H Q _ => ∃ n a c b : Int, vs = [.int n, .int a, .int c, .int b] ∧ 0 ≤ n ∧ n ≤ 8 ∧ a.natAbs ≤ 10 ^ 7 ∧ c.natAbs ≤ 10 ^ 7 ∧ b.natAbs ≤ 10 ^ 7 ∧ Q (.int (cv n a c b)) H
theorem cv_app {n a c b : Int} {H : Hp} {Q : VK} {E : XK} (h1 : 0 ≤ n) (h2 : n ≤ 8) (h3 : a.natAbs ≤ 10 ^ 7) (h4 : c.natAbs ≤ 10 ^ 7) (h5 : b.natAbs ≤ 10 ^ 7) (q : Q (.int (cv n a c b)) H) : spCv [.int n, .int a, .int c, .int b] H Q E := ⟨n, a, c, b, rfl, h1, h2, h3, h4, h5, q⟩
def fCur (ds : List PyData) (d : PyData) : Prop := ∃ a c b : Pt, ds = [ptD a, ptD c, ptD b] ∧ PtIn (10 ^ 6) a ∧ PtIn (10 ^ 6) c ∧ PtIn (10 ^ 6) b ∧ d = lnD (cvs a c b)
def fWm (ds : List PyData) (d : PyData) : Prop := ∃ c : List Pt, ds = [ctD c] ∧ c.length ≤ 100 ∧ d = ctD (wm c)
def fRo (ds : List PyData) (d : PyData) : Prop := ∃ c : List Pt, ds = [ctD c] ∧ c.length ≤ 100 ∧ d = ctD (ro c)
def fLo (ds : List PyData) (d : PyData) : Prop := ∃ c : List Pt, ds = [ctD c] ∧ c.length ≤ 100 ∧ (∀ p, p ∈ c → PtIn (10 ^ 6) p) ∧ d = lnD (lnOf c)
def fLs (ds : List PyData) (d : PyData) : Prop := ∃ o : List (List Pt), ds = [ouD o] ∧ o.length ≤ 100 ∧ (∀ c, c ∈ o → c.length ≤ 100 ∧ ∀ p, p ∈ c → PtIn (10 ^ 6) p) ∧ d = lsD (o.map lnOf)
theorem fm_filter {α β : Type} (p : α → Bool) (f : α → β) : ∀ l : List α, l.filterMap (fun i => if p i = true then some (f i) else none) = (l.filter p).map f
  | [] => rfl
  | x :: l => by
    rw [List.filterMap_cons, List.filter_cons, fm_filter p f l]
    by_cases h : p x = true
    · simp [h]
    · simp [h]
theorem ps_fm (c : List Pt) : (List.range c.length).filterMap (fun i => if (c.getD i p0).2.2 = true then some (PyData.int (i : Int)) else none) = (ps c).map fun i : Nat => PyData.int (i : Int) := fm_filter _ _ _
theorem ps_lt {c : List Pt} {k : Nat} (h : k ∈ ps c) : k < c.length := by
  unfold ps at h
  exact List.mem_range.mp (List.mem_filter.mp h).1
theorem ps_on {c : List Pt} {k : Nat} (h : k ∈ ps c) : (c.getD k p0).2.2 = true := (List.mem_filter.mp h).2
/-! a ring begins with a point that is on -/
theorem w1_last (p q : Pt) : p.2.2 = false → q.2.2 = false → (w1 p q).getLast? = some (mid p q) := fun h1 h2 => by
  unfold w1
  simp [h1, h2]
theorem wp_last_off : ∀ (l : List Pt) (p nx : Pt), (∀ x, x ∈ p :: l → x.2.2 = false) → nx.2.2 = false → ∃ z, (wp (p :: l) nx).getLast? = some z ∧ z.2.2 = true
  | [], p, nx, h, hn => ⟨mid p nx, w1_last p nx (h p (by simp)) hn, rfl⟩
  | q :: l, p, nx, h, hn => by
    obtain ⟨z, e, hz⟩ := wp_last_off l q nx (fun x m => h x (List.mem_cons_of_mem _ m)) hn
    refine ⟨z, ?_, hz⟩
    show (w1 p q ++ wp (q :: l) nx).getLast? = _
    rw [List.getLast?_append, e]
    rfl
theorem beg_head {α : Type} {c : List α} {k : Nat} {x : α} (h : c[k]? = some x) : ∃ t, beg c k = x :: t := by
  unfold beg
  have hk := (List.getElem?_eq_some_iff.mp h).1
  rw [List.drop_eq_getElem_cons hk, (List.getElem?_eq_some_iff.mp h).2]
  exact ⟨_, rfl⟩
theorem getD_of {c : List Pt} {k : Nat} {x : Pt} (h : c[k]? = some x) : c.getD k p0 = x := by
  rw [List.getD_eq_getElem?_getD, h]
  rfl
theorem ro_on {c : List Pt} {r : Pt} {l : List Pt} (h : ro c = r :: l) : r.2.2 = true := by
  unfold ro at h
  cases hps : ps c with
  | nil =>
    rw [hps] at h
    have h : (wm c).drop ((wm c).length - 1) ++ (wm c).dropLast = r :: l := h
    cases c with
    | nil => cases h
    | cons p t =>
      have off : ∀ x, x ∈ p :: t → x.2.2 = false := fun x m => by
        obtain ⟨i, hi⟩ := List.getElem?_of_mem m
        cases hx : x.2.2 with
        | false => rfl
        | true =>
          have : i ∈ ps (p :: t) := by
            refine List.mem_filter.mpr ⟨List.mem_range.mpr (List.getElem?_eq_some_iff.mp hi).1, ?_⟩
            rw [getD_of hi]
            exact hx
          rw [hps] at this
          cases this
      obtain ⟨z, e, hz⟩ := wp_last_off t p p off (off p (by simp))
      have e' : (wm (p :: t)).drop ((wm (p :: t)).length - 1) = [z] := by
        have e2 : (wm (p :: t)).getLast? = some z := e
        rw [List.getLast?_eq_getElem?] at e2
        have hlt := (List.getElem?_eq_some_iff.mp e2).1
        rw [List.drop_eq_getElem_cons hlt, (List.getElem?_eq_some_iff.mp e2).2, List.drop_of_length_le (by omega)]
      rw [e'] at h
      have : z = r := by
        have h : z :: (wm (p :: t)).dropLast = r :: l := h
        exact (List.cons.inj h).1
      rw [← this]
      exact hz
  | cons k t =>
    rw [hps] at h
    have h : wm (beg c k) = r :: l := h
    have hk : k ∈ ps c := by rw [hps]; simp
    have hkl : k < c.length := ps_lt hk
    have hx : c[k]? = some c[k] := List.getElem?_eq_getElem hkl
    have hon := ps_on hk
    rw [getD_of hx] at hon
    obtain ⟨u, hu⟩ := beg_head hx
    rw [hu] at h
    obtain ⟨v, hv⟩ := wp_head c[k] u c[k]
    have h : wp (c[k] :: u) c[k] = r :: l := h
    rw [hv] at h
    rw [← (List.cons.inj h).1]
    exact hon
end Fl

set_option Elab.async false
set_option linter.all false
set_option maxRecDepth 100000
set_option maxHeartbeats 4000000
/-! the line of a contour, in a closed form; it goes around with the contour -/
namespace Fl
open PySem PySem.Spec PyProof.Rows L2

def Rot {α : Type} (a b : List α) : Prop := ∃ u v, a = u ++ v ∧ b = v ++ u
theorem Rot.refl {α : Type} (a : List α) : Rot a a := ⟨a, [], by simp, by simp⟩
theorem Rot.symm {α : Type} {a b : List α} (h : Rot a b) : Rot b a := by
  obtain ⟨u, v, rfl, rfl⟩ := h
  exact ⟨v, u, rfl, rfl⟩
theorem Rot.trans {α : Type} {a b c : List α} (h : Rot a b) (k : Rot b c) : Rot a c := by
  obtain ⟨u, v, rfl, hb⟩ := h
  obtain ⟨u', v', rfl, rfl⟩ := k
  rcases List.append_eq_append_iff.mp hb with ⟨w, h1, h2⟩ | ⟨w, h1, h2⟩
  · -- v = u' ++ w, v' = w ++ u
    subst h1 h2
    exact ⟨u ++ u', w, by simp, by simp⟩
  · subst h1 h2
    exact ⟨w, v' ++ v, by simp, by simp⟩
theorem Rot.beg {α : Type} (a : List α) (k : Nat) : Rot a (Fl.beg a k) := ⟨a.take k, a.drop k, (List.take_append_drop k a).symm, rfl⟩
theorem Rot.len {α : Type} {a b : List α} (h : Rot a b) : a.length = b.length := by
  obtain ⟨u, v, rfl, rfl⟩ := h
  simp [Nat.add_comm]
/-- a turn by less than the whole length -/
theorem Rot.ex {α : Type} {a b : List α} (h : Rot a b) (n : a ≠ []) : ∃ k, k < a.length ∧ Fl.beg a k = b := by
  obtain ⟨u, v, rfl, rfl⟩ := h
  cases v with
  | nil =>
    refine ⟨0, ?_, ?_⟩
    · cases u with
      | nil => exact absurd rfl n
      | cons x u => simp
    · unfold Fl.beg
      simp
  | cons x v =>
    refine ⟨u.length, by simp, ?_⟩
    unfold Fl.beg
    simp

/-! middle points go around -/
theorem wp_app : ∀ (u : List Pt) (p : Pt) (v : List Pt) (nx : Pt), wp (u ++ p :: v) nx = wp u p ++ wp (p :: v) nx
  | [], _, _, _ => rfl
  | [x], p, v, nx => rfl
  | x :: y :: u, p, v, nx => by
    show w1 x y ++ wp (y :: u ++ p :: v) nx = (w1 x y ++ wp (y :: u) p) ++ wp (p :: v) nx
    rw [wp_app (y :: u) p v nx, List.append_assoc]
theorem wm_rot {a b : List Pt} (h : Rot a b) : Rot (wm a) (wm b) := by
  obtain ⟨u, v, rfl, rfl⟩ := h
  cases u with
  | nil => simpa using Rot.refl _
  | cons x u =>
    cases v with
    | nil => simpa using Rot.refl _
    | cons y v =>
      have e1 : wm (x :: u ++ y :: v) = wp (x :: u) y ++ wp (y :: v) x := wp_app (x :: u) y v x
      have e2 : wm (y :: v ++ x :: u) = wp (y :: v) x ++ wp (x :: u) y := wp_app (y :: v) x u y
      exact ⟨_, _, e1, e2⟩
theorem ro_rot (c : List Pt) : Rot (wm c) (ro c) := by
  unfold ro
  cases ps c with
  | nil =>
    refine ⟨(wm c).dropLast, (wm c).drop ((wm c).length - 1), ?_, rfl⟩
    rw [List.dropLast_eq_take, List.take_append_drop]
  | cons k l => exact wm_rot (Rot.beg c k)

/-! no two neighbours are off, around -/
def Nc : List Pt → Pt → Prop
  | [], _ => True
  | [p], nx => p.2.2 = true ∨ nx.2.2 = true
  | p :: q :: l, nx => (p.2.2 = true ∨ q.2.2 = true) ∧ Nc (q :: l) nx
theorem Nc.app : ∀ (u : List Pt) (p : Pt) (v : List Pt) (nx : Pt), Nc (u ++ p :: v) nx ↔ Nc u p ∧ Nc (p :: v) nx
  | [], _, _, _ => by simp [Nc]
  | [x], p, v, nx => by
    show (x.2.2 = true ∨ p.2.2 = true) ∧ Nc (p :: v) nx ↔ _
    rfl
  | x :: y :: u, p, v, nx => by
    show (x.2.2 = true ∨ y.2.2 = true) ∧ Nc (y :: u ++ p :: v) nx ↔ ((x.2.2 = true ∨ y.2.2 = true) ∧ Nc (y :: u) p) ∧ Nc (p :: v) nx
    rw [Nc.app (y :: u) p v nx, and_assoc]
theorem Nc.na : ∀ (l : List Pt) (nx : Pt), Nc l nx → Na (l ++ [nx])
  | [], _, _ => trivial
  | [p], nx, h => ⟨h, trivial⟩
  | p :: q :: l, nx, h => ⟨h.1, Nc.na (q :: l) nx h.2⟩
theorem w1_nc (p q : Pt) : Nc (w1 p q) q := by
  unfold w1
  by_cases hp : p.2.2 = true
  · rw [if_pos hp]; exact .inl hp
  · rw [if_neg hp]
    by_cases hq : q.2.2 = true
    · rw [if_pos hq]; exact .inr hq
    · rw [if_neg hq]
      exact ⟨.inr rfl, .inl rfl⟩
theorem wp_nc : ∀ (l : List Pt) (nx : Pt), Nc (wp l nx) nx
  | [], _ => trivial
  | [p], nx => w1_nc p nx
  | p :: q :: l, nx => by
    obtain ⟨t, e⟩ := wp_head q l nx
    have ih := wp_nc (q :: l) nx
    show Nc (w1 p q ++ wp (q :: l) nx) nx
    rw [e] at ih ⊢
    exact (Nc.app _ _ _ _).mpr ⟨w1_nc p q, ih⟩
/-- around -/
def Nr : List Pt → Prop
  | [] => True
  | p :: l => Nc (p :: l) p
theorem Nr.rot {a b : List Pt} (h : Rot a b) (k : Nr a) : Nr b := by
  obtain ⟨u, v, rfl, rfl⟩ := h
  cases u with
  | nil => simpa using k
  | cons x u =>
    cases v with
    | nil => simpa using k
    | cons y v =>
      have k : Nc (x :: u ++ y :: v) x := k
      show Nc (y :: v ++ x :: u) y
      rw [Nc.app] at k ⊢
      exact ⟨k.2, k.1⟩
theorem wm_nr (c : List Pt) : Nr (wm c) := by
  cases c with
  | nil => trivial
  | cons p l =>
    obtain ⟨t, e⟩ := wp_head p l p
    have h := wp_nc (p :: l) p
    show Nr (wp (p :: l) p)
    rw [e] at h ⊢
    exact h
theorem ro_nr (c : List Pt) : Nr (ro c) := (wm_nr c).rot (ro_rot c)

/-! the line, around -/
def er (l : List Pt) : List Pr := match l with
  | [] => []
  | p :: t => ep ((p :: t).getLast (by simp)) (p :: t) p
theorem ep_app : ∀ (u : List Pt) (pv p : Pt) (v : List Pt) (nx x : Pt), ep pv (x :: u ++ p :: v) nx = ep pv (x :: u) p ++ ep ((x :: u).getLast (by simp)) (p :: v) nx
  | [], _, _, _, _, _ => rfl
  | y :: u, pv, p, v, nx, x => by
    have ih := ep_app u x p v nx y
    show e1 pv x y ++ ep x (y :: u ++ p :: v) nx = (e1 pv x y ++ ep x (y :: u) p) ++ ep ((x :: y :: u).getLast (by simp)) (p :: v) nx
    rw [ih, List.append_assoc]
    rfl
theorem er_rot {a b : List Pt} (h : Rot a b) : Rot (er a) (er b) := by
  obtain ⟨u, v, rfl, rfl⟩ := h
  cases u with
  | nil => simpa using Rot.refl _
  | cons x u =>
    cases v with
    | nil => simpa using Rot.refl _
    | cons y v =>
      have g1 : (x :: u ++ y :: v).getLast (by simp) = (y :: v).getLast (by simp) := List.getLast_append_of_ne_nil (by simp) (by simp)
      have g2 : (y :: v ++ x :: u).getLast (by simp) = (x :: u).getLast (by simp) := List.getLast_append_of_ne_nil (by simp) (by simp)
      refine ⟨ep ((y :: v).getLast (by simp)) (x :: u) y, ep ((x :: u).getLast (by simp)) (y :: v) x, ?_, ?_⟩
      · show ep ((x :: u ++ y :: v).getLast (by simp)) (x :: u ++ y :: v) x = _
        rw [g1, ep_app]
      · show ep ((y :: v ++ x :: u).getLast (by simp)) (y :: v ++ x :: u) y = _
        rw [g2, ep_app]
theorem lnOf_er (c : List Pt) : lnOf c = er (ro c) := by
  unfold lnOf
  have hn := ro_nr c
  cases hro : ro c with
  | nil => rfl
  | cons r l =>
    have hr := ro_on hro
    rw [hro] at hn
    have hna : Na (r :: l ++ [r]) := Nc.na _ _ hn
    have h1 := tele r hr l ((r :: l).getLast (by simp)) r hna
    rw [if_pos hr] at h1
    have h2 : (List.range (r :: l).length).flatMap (st p0 (r :: l ++ [r])) = sp' p0 (r :: l ++ [r]) := by
      have := st_sp (l ++ [r]) p0 r
      rw [List.length_append] at this
      exact this
    have h3 : sp' p0 (r :: l ++ [r]) = sp' ((r :: l).getLast (by simp)) (r :: l ++ [r]) := by
      cases l with
      | nil =>
        show s1 _ r r ++ [] = s1 _ r r ++ []
        unfold s1
        simp [hr]
      | cons q l =>
        show s1 _ r q ++ _ = s1 _ r q ++ _
        unfold s1
        simp [hr]
    show (pr r :: (List.range (r :: l).length).flatMap (st p0 (r :: l ++ [r]))).dropLast = ep ((r :: l).getLast (by simp)) (r :: l) r
    rw [h2, h3]
    have h4 : pr r :: sp' ((r :: l).getLast (by simp)) (r :: l ++ [r]) = ep ((r :: l).getLast (by simp)) (r :: l) r ++ [pr r] := h1
    rw [h4, List.dropLast_concat]
theorem lnOf_rot {a b : List Pt} (h : Rot a b) : Rot (lnOf a) (lnOf b) := by
  rw [lnOf_er, lnOf_er]
  exact er_rot ((ro_rot a).symm.trans ((wm_rot h).trans (ro_rot b)))
theorem lnOf_ne {c : List Pt} (h : c ≠ []) : lnOf c ≠ [] := by
  rw [lnOf_er]
  have hl := ro_len c
  cases hro : ro c with
  | nil =>
    rw [hro] at hl
    exact absurd (List.eq_nil_of_length_eq_zero (by simpa using hl.2)) h
  | cons r l =>
    have hr := ro_on hro
    show ep _ (r :: l) r ≠ []
    cases l with
    | nil =>
      show e1 _ r r ≠ []
      unfold e1
      rw [if_pos hr]
      simp
    | cons q l =>
      show e1 _ r q ++ _ ≠ []
      unfold e1
      rw [if_pos hr]
      simp
end Fl
namespace Fl
open PySem PySem.Spec PyProof.Rows L2
theorem canLay_all (P : PyData → Prop) (h : ∀ d, P d → d.canLay0 = true) : ∀ ds : List PyData, (∀ d, d ∈ ds → P d) → PyData.canLayAll0 ds = true
  | [], _ => by simp [PyData.canLayAll0]
  | d :: ds, k => by
    simp [PyData.canLayAll0, h d (k d (by simp)), canLay_all P h ds (fun e m => k e (List.mem_cons_of_mem _ m))]
theorem depth_all (n : Nat) : ∀ ds : List PyData, (∀ d, d ∈ ds → d.depth ≤ n) → PyData.depthAll ds ≤ n
  | [], _ => by simp [PyData.depthAll]
  | d :: ds, k => by
    have h1 := k d (by simp)
    have h2 := depth_all n ds (fun e m => k e (List.mem_cons_of_mem _ m))
    simp only [PyData.depthAll]
    omega
theorem sh_list {ds : List PyData} {n : Nat} (h : ∀ d, d ∈ ds → d.canLay0 = true ∧ d.depth ≤ n) (hn : n < 64) : SeqAt.shaped (.list ds) = true := by
  unfold SeqAt.shaped
  have h1 := canLay_all (fun d => d.canLay0 = true) (fun _ h => h) ds (fun d m => (h d m).1)
  have h2 := depth_all n ds (fun d m => (h d m).2)
  have h3 : (PyData.list ds).depth = PyData.depthAll ds + 1 := by simp [PyData.depth]
  have h4 : (PyData.list ds).canLay0 = true := by simp [PyData.canLay0, h1]
  rw [h4, Bool.true_and, decide_eq_true_eq, h3]
  omega
theorem pr_lay (p : Pr) : (prD p).canLay0 = true ∧ (prD p).depth ≤ 1 := by
  unfold prD
  simp [PyData.canLay0, PyData.canLayAll0, PyData.depth, PyData.depthAll]
theorem sh_ln (l : List Pr) : SeqAt.shaped (lnD l) = true := sh_list (n := 1) (fun d m => by
  obtain ⟨p, _, rfl⟩ := List.mem_map.mp m
  exact pr_lay p) (by decide)
theorem eqv_self {d : PyData} (h : SeqAt.shaped d = true) : PyData.eqv d d = true := SeqAt.eqv_refl d (SeqAt.canLay_of_shaped h)
theorem g_eqD {K : PySem.W.Frag} {S T : List Addr} {H : Hp} {x y : V} {d e : PyData} {Q : VK} (h1 : Dq S H x d) (h2 : Dq T H y e) (s1 : SeqAt.shaped d = true) (s2 : SeqAt.shaped e = true) (q : Q (.bl (PyData.eqv d e)) H) : rEqD K x y H Q :=
  ⟨d, e, h1.dp (nodict_sh s1), h2.dp (nodict_sh s2), s1, s2, q⟩
theorem g_neD' {K : PySem.W.Frag} {S T : List Addr} {H : Hp} {x y : V} {d e : PyData} {Q : VK} (h1 : Dq S H x d) (h2 : Dq T H y e) (s1 : SeqAt.shaped d = true) (s2 : SeqAt.shaped e = true) (q : Q (.bl (!PyData.eqv d e)) H) : rNeD K x y H Q :=
  ⟨d, e, h1.dp (nodict_sh s1), h2.dp (nodict_sh s2), s1, s2, q⟩
end Fl
namespace Fl
open PySem PySem.Spec PyProof.Rows L2
theorem e1_len (a p b : Pt) : (e1 a p b).length ≤ 7 := by
  unfold e1
  split
  · simp
  · simp [cv7]
theorem ep_len : ∀ (l : List Pt) (pv nx : Pt), (ep pv l nx).length ≤ 7 * l.length
  | [], _, _ => Nat.le_refl _
  | [p], pv, nx => e1_len pv p nx
  | p :: q :: l, pv, nx => by
    have ih := ep_len (q :: l) p nx
    have h := e1_len pv p q
    show (e1 pv p q ++ ep p (q :: l) nx).length ≤ _
    rw [List.length_append]
    simp only [List.length_cons] at *
    omega
theorem lnOf_len (c : List Pt) : (lnOf c).length ≤ 14 * c.length := by
  rw [lnOf_er]
  have h := (ro_len c).1
  unfold er
  cases hro : ro c with
  | nil => simp
  | cons r l =>
    rw [hro] at h
    have := ep_len (r :: l) ((r :: l).getLast (by simp)) r
    show (ep ((r :: l).getLast (by simp)) (r :: l) r).length ≤ _
    omega
end Fl

set_option Elab.async false
set_option linter.all false
set_option maxRecDepth 100000
set_option maxHeartbeats 4000000
/-! flattened lists; least and greatest numbers; the same data twice -/
namespace Fl
open PySem PySem.Spec PyProof.Rows L2
section
variable {K : PySem.W.Frag} {S : List Addr} {H1 : Hp} {Q : VK}
def lc2K (J : It) (g : TG) (tt : TT) (wi1 : TI) (g1 : TG) (tt1 : TT) (te : TE) (vs vs1 : List Nat) (σ : L2.St) (H1 : Hp) (Q : VK) : Prop :=
  ∀ B, H1 B = none → ∃ W : Nat → Nat → Hp → Prop, (∃ m, W 0 m (upd H1 B (.lst []))) ∧ ∀ i m H, W i m H →
    (J.stop i H ∧ Q (.ref B) H) ∨ (J.go i H ∧ ∃ Nx : Hp → Prop, (∀ H', Nx H' → ∃ m', m' < m ∧ W (i + 1) m' H') ∧
      ∀ x H', J.yld i H x H' → g x (wipe σ vs) H' fun σ2 H2 => wipe σ2 vs = wipe σ vs ∧ tt σ2 H2 fun b H3 =>
        if b = true then wi1 σ2 H3 fun J1 H4 => ∃ W1 : Nat → Nat → Hp → Prop, (∃ m, W1 0 m H4) ∧ ∀ j k H, W1 j k H →
          (J1.stop j H ∧ Nx H) ∨ (J1.go j H ∧ ∃ Nx1 : Hp → Prop, (∀ H', Nx1 H' → ∃ k', k' < k ∧ W1 (j + 1) k' H') ∧
            ∀ x H', J1.yld j H x H' → g1 x (wipe σ2 vs1) H' fun σ3 H5 => wipe σ3 vs1 = wipe σ2 vs1 ∧ tt1 σ3 H5 fun b H6 =>
              if b = true then te σ3 H6 fun y H7 => ∃ acc, H7 B = some (.lst acc) ∧ acc.length < sizeLine ∧ Nx1 (upd H7 B (.lst (acc ++ [y]))) else Nx1 H6)
        else Nx H3)
theorem g_lc2 {wi : TI} {g : TG} {tt : TT} {wi1 : TI} {g1 : TG} {tt1 : TT} {te : TE} {vs vs1 : List Nat} {σ : L2.St} {H : Hp} (h : wi σ H fun J H1 => lc2K J g tt wi1 g1 tt1 te vs vs1 σ H1 Q) : tLc2 wi g tt wi1 g1 tt1 te vs vs1 σ H Q := h
theorem g_yesI {A B : Hp → Prop} {σ : L2.St} {H : Hp} (h : A H) : tYes σ H (fun b H3 => if b = true then A H3 else B H3) := h
structure FlatAt (S : List Addr) (H1 : Hp) (D : Addr) (ds : List PyData) (H : Hp) : Prop where
  ex : ∃ acc, H D = some (.lst acc) ∧ DqA (D :: S) H acc ds
  fr : Fr [D] H1 H
/-- [y for x in xs for y in x] -/
theorem lcLL {a : Addr} {es : List (List PyData)} {vs vs1 : List Nat} {σ : L2.St} {i0 j0 : Nat} (hS : Al S H1) (ha : Dq S H1 (.ref a) (.list (es.map PyData.list))) (hz : es.flatten.length < 1000)
    (hw : ∀ x, wipe ((wipe σ vs).set i0 (some x)) vs = wipe σ vs) (hw1 : ∀ x y, wipe ((wipe ((wipe σ vs).set i0 (some x)) vs1).set j0 (some y)) vs1 = wipe ((wipe σ vs).set i0 (some x)) vs1)
    (hi0 : ∀ x, ((wipe σ vs).set i0 (some x))[i0]? = some (some x)) (hj0 : ∀ x y, ((wipe ((wipe σ vs).set i0 (some x)) vs1).set j0 (some y))[j0]? = some (some y))
    (q : ∀ (D : Addr) (H : Hp), Same H1 H → H1 D = none → Dq S H (.ref D) (.list es.flatten) → Q (.ref D) H) :
    lc2K (Itl K a) (gName i0) tYes (iList K (tVar i0)) (gName j0) tYes (tVar j0) vs vs1 σ H1 Q := by
  intro D hD
  obtain ⟨a', xs, ea, na, hxs, hall⟩ := ha.lstE
  cases ea
  have hlx := hall.len
  rw [List.length_map] at hlx
  have hDa : a ≠ D := fun e => by rw [e, hD] at hxs; cases hxs
  have hDS : D ∉ S := hS.ni hD
  refine ⟨fun i m H => m = xs.length - i ∧ i ≤ xs.length ∧ FlatAt S H1 D (es.take i).flatten H, ⟨_, rfl, Nat.zero_le _, ⟨⟨[], upd_same, .nil⟩, Fr.same (Fl.Same.new hD)⟩⟩, ?_⟩
  rintro i m H ⟨rfl, hle, F⟩
  have hsm : Same H1 H := sm_of hD F.fr
  have qa : SqL K H a xs := SqL.of (F.fr a _ (by simpa using hDa) hxs)
  by_cases hlt : i < xs.length
  · refine .inr ⟨⟨xs, xs[i], qa, by simp [hlt]⟩, FlatAt S H1 D (es.take (i + 1)).flatten, fun H' p => ⟨xs.length - (i + 1), by omega, rfl, hlt, p⟩, fun x H' y => ?_⟩
    obtain ⟨e, y⟩ := y
    subst e
    have hx := y xs qa
    refine g_name ⟨hw x, g_yesI ?_⟩
    obtain ⟨e, he, dx⟩ := ((hall.new hD).same hsm).getM hx
    obtain ⟨b, zs, rfl, nb, hb, hB⟩ := dx.lstE
    have hDb : b ≠ D := fun e => nb (by rw [e]; simp)
    have hlz := hB.len
    have hflat : (es.take (i + 1)).flatten = (es.take i).flatten ++ e := by
      rw [List.take_succ, he, List.flatten_append]
      simp
    have hsub : (es.take (i + 1)).flatten.length ≤ es.flatten.length := by
      conv => rhs; rw [← List.take_append_drop (i + 1) es, List.flatten_append, List.length_append]
      omega
    refine g_il (g_var (hi0 _) (g_el (SqL.of hb) ?_))
    refine ⟨fun j k H => k = zs.length - j ∧ j ≤ zs.length ∧ FlatAt S H1 D ((es.take i).flatten ++ e.take j) H ∧ Fr [D] H' H, ⟨_, rfl, Nat.zero_le _, by simpa using F, Fr.refl⟩, ?_⟩
    rintro j k H2 ⟨rfl, hj, F2, f2⟩
    have qb : SqL K H2 b zs := SqL.of (f2 b _ (by simpa using hDb) hb)
    by_cases hjl : j < zs.length
    · refine .inr ⟨⟨zs, zs[j], qb, by simp [hjl]⟩, fun H => FlatAt S H1 D ((es.take i).flatten ++ e.take (j + 1)) H ∧ Fr [D] H' H, fun H3 p => ⟨zs.length - (j + 1), by omega, rfl, hjl, p⟩, fun x2 H3 y2 => ?_⟩
      obtain ⟨e2, y2⟩ := y2
      subst e2
      have hx2 := y2 zs qb
      refine g_name ⟨hw1 _ x2, g_yesI (g_var (hj0 _ x2) ?_)⟩
      obtain ⟨⟨acc, hacc, hA⟩, hf⟩ := F2
      have hfS : Fr (D :: S) H' H3 := f2.mono fun b m => by simpa using Or.inl (show b = D by simpa using m)
      obtain ⟨e', he', dx2⟩ := (hB.fr hfS).get hx2
      have hal := hA.len
      have hlen : ((es.take i).flatten ++ e.take j).length < 1000 := by
        rw [hflat] at hsub
        rw [List.length_append] at hsub ⊢
        rw [List.length_take]
        omega
      refine ⟨acc, hacc, ?_, ⟨⟨acc ++ [x2], upd_same, ?_⟩, hf.trans (Fr.upd (by simp))⟩, f2.trans (Fr.upd (by simp))⟩
      · have : (1000 : Nat) ≤ sizeLine := by decide
        omega
      · rw [List.take_succ, he', ← List.append_assoc]
        exact (hA.app (.one dx2)).fr (Fr.upd (by simp))
    · have ej : j = zs.length := by omega
      subst ej
      refine .inl ⟨⟨zs, qb, Nat.le_refl _⟩, ?_⟩
      rw [hflat]
      rw [List.take_of_length_le (l := e) (i := zs.length) (by omega)] at F2
      exact F2
  · have e : i = xs.length := by omega
    subst e
    refine .inl ⟨⟨xs, qa, Nat.le_refl _⟩, ?_⟩
    rw [List.take_of_length_le (by omega)] at F
    obtain ⟨⟨acc, hacc, hA⟩, hf⟩ := F
    exact q D _ hsm hD (.lst hDS hacc hA.tail)
end

/-! the least and the greatest -/
def IsMin (m : Int) (l : List Int) : Prop := m ∈ l ∧ ∀ y, y ∈ l → m ≤ y
def IsMax (m : Int) (l : List Int) : Prop := m ∈ l ∧ ∀ y, y ∈ l → y ≤ m
theorem ex_min : ∀ l : List Int, l ≠ [] → ∃ m, IsMin m l
  | [], h => absurd rfl h
  | [x], _ => ⟨x, by simp, fun y m => by rw [show y = x by simpa using m]; exact Int.le_refl _⟩
  | x :: z :: l, _ => by
    obtain ⟨m, h1, h2⟩ := ex_min (z :: l) (by simp)
    rcases Int.le_total x m with h | h
    · refine ⟨x, by simp, fun y my => ?_⟩
      rcases List.mem_cons.mp my with rfl | my
      · exact Int.le_refl _
      · exact Int.le_trans h (h2 y my)
    · refine ⟨m, List.mem_cons_of_mem _ h1, fun y my => ?_⟩
      rcases List.mem_cons.mp my with rfl | my
      · exact h
      · exact h2 y my
theorem ex_max : ∀ l : List Int, l ≠ [] → ∃ m, IsMax m l
  | [], h => absurd rfl h
  | [x], _ => ⟨x, by simp, fun y m => by rw [show y = x by simpa using m]; exact Int.le_refl _⟩
  | x :: z :: l, _ => by
    obtain ⟨m, h1, h2⟩ := ex_max (z :: l) (by simp)
    rcases Int.le_total x m with h | h
    · refine ⟨m, List.mem_cons_of_mem _ h1, fun y my => ?_⟩
      rcases List.mem_cons.mp my with rfl | my
      · exact h
      · exact h2 y my
    · refine ⟨x, by simp, fun y my => ?_⟩
      rcases List.mem_cons.mp my with rfl | my
      · exact Int.le_refl _
      · exact Int.le_trans (h2 y my) h
theorem IsMin.eq {m n : Int} {l : List Int} (h : IsMin m l) (k : IsMin n l) : m = n := Int.le_antisymm (h.2 n k.1) (k.2 m h.1)
theorem IsMax.eq {m n : Int} {l : List Int} (h : IsMax m l) (k : IsMax n l) : m = n := Int.le_antisymm (k.2 m h.1) (h.2 n k.1)
theorem ints_of {S : List Addr} {H : Hp} : ∀ {xs : List V} {ns : List Int}, DqA S H xs (ns.map PyData.int) → xs = ns.map V.int
  | _, [], h => h.nilE
  | _, n :: ns, h => by
    obtain ⟨v, ws, rfl, hv, hw⟩ := h.consE
    rw [hv.intE, ints_of hw]
    rfl
def rMinL (K : PySem.W.Frag) : List V → Hp → VK → Prop := fun vs H Q => ∃ (a : Addr) (ns : List Int), vs = [V.ref a] ∧ SqL K H a (ns.map V.int) ∧ ∃ m, IsMin m ns ∧ Q (.int m) H
def rMaxL (K : PySem.W.Frag) : List V → Hp → VK → Prop := fun vs H Q => ∃ (a : Addr) (ns : List Int), vs = [V.ref a] ∧ SqL K H a (ns.map V.int) ∧ ∃ m, IsMax m ns ∧ Q (.int m) H
section
variable {X : Cx} {K : PySem.W.Frag}
theorem clMin (e : X.K = K) (hc : X.calm = true) : CallR X (.builtin "min") (Fl.rMinL K) := by
  subst e
  intro pins s σ H xs us Q I r h
  obtain ⟨a, ns, rfl, hs, m, hm, q⟩ := h
  exact cr_min hc pins s σ H _ us Q I r ⟨a, ns, rfl, hs, List.length_pos_of_mem hm.1, fun m' h1 h2 => by rw [IsMin.eq ⟨h1, h2⟩ hm]; exact q⟩
theorem clMax (e : X.K = K) (hc : X.calm = true) : CallR X (.builtin "max") (Fl.rMaxL K) := by
  subst e
  intro pins s σ H xs us Q I r h
  obtain ⟨a, ns, rfl, hs, m, hm, q⟩ := h
  exact cr_max hc pins s σ H _ us Q I r ⟨a, ns, rfl, hs, List.length_pos_of_mem hm.1, fun m' h1 h2 => by rw [IsMax.eq ⟨h1, h2⟩ hm]; exact q⟩
theorem clSum (e : X.K = K) (hc : X.calm = true) : CallR X (.builtin "sum") (rSum K) := by subst e; exact cr_sum hc
theorem g_minL {a : Addr} {ns : List Int} {m : Int} {H : Hp} {Q : VK} (h : SqL K H a (ns.map V.int)) (hm : IsMin m ns) (q : Q (.int m) H) : Fl.rMinL K [.ref a] H Q := ⟨a, ns, rfl, h, m, hm, q⟩
theorem g_maxL {a : Addr} {ns : List Int} {m : Int} {H : Hp} {Q : VK} (h : SqL K H a (ns.map V.int)) (hm : IsMax m ns) (q : Q (.int m) H) : Fl.rMaxL K [.ref a] H Q := ⟨a, ns, rfl, h, m, hm, q⟩
theorem g_sum {a : Addr} {ns : List Int} {H : Hp} {Q : VK} (h : SqL K H a (ns.map V.int)) (q : Q (.int ns.sum) H) : rSum K [.ref a] H Q := ⟨a, ns, rfl, h, q⟩
end

/-! promises -/
def xsOf (o : List (List Pt)) : List Int := o.flatten.map fun p => p.1
def ysOf (o : List (List Pt)) : List Int := o.flatten.map fun p => p.2.1
def fBox (ds : List PyData) (d : PyData) : Prop := ∃ o : List (List Pt), ds = [ouD o] ∧ o.flatten.length < 900 ∧
  ((o.flatten = [] ∧ d = .none) ∨ ∃ x1 y1 x2 y2 : Int, IsMin x1 (xsOf o) ∧ IsMin y1 (ysOf o) ∧ IsMax x2 (xsOf o) ∧ IsMax y2 (ysOf o) ∧ d = .tuple [.int x1, .int y1, .int x2, .int y2])
def mv (x y : Int) (p : Pt) : Pt := (p.1 + x, p.2.1 + y, p.2.2)
def fMv (ds : List PyData) (d : PyData) : Prop := ∃ (o : List (List Pt)) (x y : Int), ds = [ouD o, .int x, .int y] ∧ o.length ≤ 100 ∧ (∀ c, c ∈ o → c.length ≤ 900) ∧ d = ouD (o.map fun c => c.map (mv x y))
/-- flat data -/
def FlD : PyData → Prop
  | .int _ | .bool _ | .none => True
  | _ => False
def TfD (d : PyData) : Prop := ∃ es, d = .tuple es ∧ es.length ≤ 10 ∧ ∀ e, e ∈ es → FlD e
/-- same(x, y), x and y the same flat data -/
def spSm1 : Sp := fun vs H Q _ => ∃ (S T : List Addr) (d : PyData) (x y : V), vs = [x, y] ∧ FlD d ∧ Dq S H x d ∧ Dq T H y d ∧ Q (.bl true) H
def spSm2 : Sp := fun vs H Q _ => ∃ (S T : List Addr) (d : PyData) (x y : V), vs = [x, y] ∧ TfD d ∧ Dq S H x d ∧ Dq T H y d ∧ Q (.bl true) H
def spSml : Sp := fun vs H Q _ => ∃ (S T : List Addr) (ds : List PyData) (x y : V), vs = [x, y] ∧ ds.length ≤ 900 ∧ (∀ d, d ∈ ds → TfD d) ∧ Dq S H x (.list ds) ∧ Dq T H y (.list ds) ∧ Q (.bl true) H
def spSmr : Sp := fun vs H Q _ => ∃ (S T : List Addr) (dss : List (List PyData)) (x y : V), vs = [x, y] ∧ Al S H ∧ dss.length ≤ 900 ∧ (∀ ds, ds ∈ dss → ds.length ≤ 900 ∧ ∀ d, d ∈ ds → TfD d) ∧ Dq S H x (.list (dss.map PyData.list)) ∧ Dq T H y (.list (dss.map PyData.list)) ∧ ∀ H', Same H H' → Q (.bl true) H'
theorem tf_pt (p : Pt) : TfD (ptD p) := ⟨_, rfl, by simp, fun e m => by
  simp only [List.mem_cons, List.not_mem_nil, or_false] at m
  rcases m with rfl | rfl | rfl <;> trivial⟩
theorem tf_pr (p : Pr) : TfD (prD p) := ⟨_, rfl, by simp, fun e m => by
  simp only [List.mem_cons, List.not_mem_nil, or_false] at m
  rcases m with rfl | rfl <;> trivial⟩
theorem trues_of {S : List Addr} {H : Hp} : ∀ (l : List Nat) (zs : List V), DqA S H zs (l.filterMap fun _ => some (PyData.bool true)) → zs.all flatV = true ∧ inV (.bl false) zs = false
  | [], zs, h => by
    rw [h.nilE]
    exact ⟨rfl, rfl⟩
  | _ :: l, zs, h => by
    obtain ⟨v, ws, rfl, hv, hw⟩ := h.consE
    obtain ⟨h1, h2⟩ := trues_of l ws hw
    rw [hv.blE]
    exact ⟨by rw [List.all_cons, h1]; rfl, by
      show (eqV (.bl true) (.bl false) || inV (.bl false) ws) = false
      rw [h2]
      rfl⟩
end Fl

set_option Elab.async false
set_option linter.all false
set_option maxRecDepth 100000
set_option maxHeartbeats 4000000
/-! lines: where they lie, where they begin, how they move -/
namespace Fl
open PySem PySem.Spec PyProof.Rows L2
theorem e1_in {P : Pt → Prop} {R : Pr → Prop} (h1 : ∀ p, P p → R (pr p)) (h2 : ∀ a p b n, n < 7 → P a → P p → P b → R (cp a p b n)) {a p b : Pt} (ha : P a) (hp : P p) (hb : P b) {x : Pr} (m : x ∈ e1 a p b) : R x := by
  unfold e1 at m
  split at m
  · rw [show x = pr p by simpa using m]
    exact h1 p hp
  · unfold cv7 at m
    obtain ⟨n, hn, rfl⟩ := List.mem_map.mp m
    exact h2 a p b n (List.mem_range.mp hn) ha hp hb
theorem ep_in {P : Pt → Prop} {R : Pr → Prop} (h1 : ∀ p, P p → R (pr p)) (h2 : ∀ a p b n, n < 7 → P a → P p → P b → R (cp a p b n)) : ∀ (l : List Pt) (pv nx : Pt), P pv → P nx → (∀ p, p ∈ l → P p) → ∀ x, x ∈ ep pv l nx → R x
  | [], _, _, _, _, _, _, m => nomatch m
  | [p], pv, nx, hv, hn, h, x, m => e1_in h1 h2 hv (h p (by simp)) hn m
  | p :: q :: l, pv, nx, hv, hn, h, x, m => by
    rcases List.mem_append.mp (show x ∈ e1 pv p q ++ ep p (q :: l) nx from m) with m | m
    · exact e1_in h1 h2 hv (h p (by simp)) (h q (by simp)) m
    · exact ep_in h1 h2 (q :: l) p nx (h p (by simp)) hn (fun z mz => h z (List.mem_cons_of_mem _ mz)) x m
theorem lnOf_in {P : Pt → Prop} {R : Pr → Prop} (hP : InB P) (h1 : ∀ p, P p → R (pr p)) (h2 : ∀ a p b n, n < 7 → P a → P p → P b → R (cp a p b n)) {c : List Pt} (h : ∀ p, p ∈ c → P p) : ∀ x, x ∈ lnOf c → R x := by
  intro x m
  rw [lnOf_er] at m
  have hr := ro_in hP h
  cases hro : ro c with
  | nil => rw [hro] at m; cases m
  | cons r l =>
    rw [hro] at m hr
    exact ep_in h1 h2 (r :: l) _ r (hr _ (List.getLast_mem _)) (hr r (by simp)) hr x m
theorem cv_box {lo hi n a c b : Int} (h0 : 1 ≤ n) (h1 : n ≤ 7) (ha : lo ≤ a ∧ a ≤ hi) (hc : lo ≤ c ∧ c ≤ hi) (hb : lo ≤ b ∧ b ≤ hi) : lo ≤ cv n a c b ∧ cv n a c b ≤ hi := by
  unfold cv
  rcases (by omega : n = 1 ∨ n = 2 ∨ n = 3 ∨ n = 4 ∨ n = 5 ∨ n = 6 ∨ n = 7) with rfl | rfl | rfl | rfl | rfl | rfl | rfl <;> omega
theorem ln_box {x1 y1 x2 y2 : Int} {c : List Pt} (h : ∀ p, p ∈ c → (x1 ≤ p.1 ∧ p.1 ≤ x2) ∧ y1 ≤ p.2.1 ∧ p.2.1 ≤ y2) : ∀ z, z ∈ lnOf c → (x1 ≤ z.1 ∧ z.1 ≤ x2) ∧ y1 ≤ z.2 ∧ z.2 ≤ y2 := by
  refine lnOf_in (P := fun p => (x1 ≤ p.1 ∧ p.1 ≤ x2) ∧ y1 ≤ p.2.1 ∧ p.2.1 ≤ y2) (R := fun z => (x1 ≤ z.1 ∧ z.1 ≤ x2) ∧ y1 ≤ z.2 ∧ z.2 ≤ y2) ?_ (fun p hp => hp) ?_ h
  · intro p q hp hq
    refine ⟨⟨?_, ?_⟩, ?_, ?_⟩
    · show _ ≤ (p.1 + q.1) / 2; omega
    · show (p.1 + q.1) / 2 ≤ _; omega
    · show _ ≤ (p.2.1 + q.2.1) / 2; omega
    · show (p.2.1 + q.2.1) / 2 ≤ _; omega
  · intro a p b n hn ha hp hb
    exact ⟨cv_box (by omega) (by omega) ha.1 hp.1 hb.1, cv_box (by omega) (by omega) ha.2 hp.2 hb.2⟩

/-! the points that are on -/
def fon (c : List Pt) : List Pt := c.filter fun p => p.2.2
theorem range_map (c : List Pt) : (List.range c.length).map (fun i => c.getD i p0) = c := by
  apply List.ext_getElem
  · simp
  · intro i h1 h2
    rw [List.getElem_map, List.getElem_range, List.getD_eq_getElem?_getD, List.getElem?_eq_getElem h2]
    rfl
theorem fon_ps (c : List Pt) : fon c = (ps c).map fun i => c.getD i p0 := by
  have h : fon c = fon ((List.range c.length).map fun i => c.getD i p0) := by rw [range_map]
  rw [h]
  unfold fon ps
  rw [List.filter_map]
  rfl
theorem lnOf_head {c : List Pt} {f : Pt} {t : List Pt} (h : fon c = f :: t) : ∃ l, lnOf c = pr f :: l := by
  rw [fon_ps] at h
  cases hps : ps c with
  | nil => rw [hps] at h; cases h
  | cons k u =>
    rw [hps] at h
    have hk : k ∈ ps c := by rw [hps]; simp
    have hkl : k < c.length := ps_lt hk
    have hx : c[k]? = some c[k] := List.getElem?_eq_getElem hkl
    have hf : c[k] = f := by
      rw [List.map_cons] at h
      rw [← (List.cons.inj h).1, getD_of hx]
    have hon := ps_on hk
    rw [getD_of hx] at hon
    obtain ⟨v, hv⟩ := beg_head hx
    have hro : ro c = wm (beg c k) := by unfold ro; rw [hps]
    obtain ⟨z, hz⟩ := wp_head c[k] v c[k]
    rw [hv] at hro
    have hro : ro c = c[k] :: z := hro.trans hz
    rw [lnOf_er, hro, ← hf]
    show ∃ l, ep _ (c[k] :: z) c[k] = _
    cases z with
    | nil =>
      refine ⟨[], ?_⟩
      show e1 _ _ _ = _
      unfold e1
      rw [if_pos hon]
    | cons q z =>
      refine ⟨ep c[k] (q :: z) c[k], ?_⟩
      show e1 _ _ _ ++ _ = _
      unfold e1
      rw [if_pos hon]
      rfl
theorem wp_on : ∀ (l : List Pt) (nx : Pt), (∀ p, p ∈ l → p.2.2 = true) → wp l nx = l
  | [], _, _ => rfl
  | [p], nx, h => by
    show w1 p nx = _
    unfold w1
    rw [if_pos (h p (by simp))]
  | p :: q :: l, nx, h => by
    show w1 p q ++ wp (q :: l) nx = _
    rw [wp_on (q :: l) nx (fun x m => h x (List.mem_cons_of_mem _ m))]
    unfold w1
    rw [if_pos (h p (by simp))]
    rfl
theorem ep_on : ∀ (l : List Pt) (pv nx : Pt), (∀ p, p ∈ l → p.2.2 = true) → ep pv l nx = l.map pr
  | [], _, _, _ => rfl
  | [p], pv, nx, h => by
    show e1 pv p nx = _
    unfold e1
    rw [if_pos (h p (by simp))]
    rfl
  | p :: q :: l, pv, nx, h => by
    show e1 pv p q ++ ep p (q :: l) nx = _
    rw [ep_on (q :: l) p nx (fun x m => h x (List.mem_cons_of_mem _ m))]
    unfold e1
    rw [if_pos (h p (by simp))]
    rfl
theorem lnOf_on {c : List Pt} (h : ∀ p, p ∈ c → p.2.2 = true) : lnOf c = c.map pr := by
  have hr : ro c = c := by
    cases c with
    | nil => rfl
    | cons p l =>
      have h0 : ps (p :: l) = List.range (p :: l).length := by
        unfold ps
        rw [List.filter_eq_self]
        intro i hi
        have hi := List.mem_range.mp hi
        have hx : (p :: l)[i]? = some (p :: l)[i] := List.getElem?_eq_getElem hi
        show ((p :: l).getD i p0).2.2 = true
        rw [getD_of hx]
        exact h _ (List.mem_of_getElem? hx)
      unfold ro
      rw [h0, show (p :: l).length = l.length + 1 from rfl, List.range_succ_eq_map]
      show wm (beg (p :: l) 0) = p :: l
      have hb : beg (p :: l) 0 = p :: l := by unfold beg; simp
      rw [hb]
      exact wp_on (p :: l) p h
  rw [lnOf_er, hr]
  cases c with
  | nil => rfl
  | cons p l => exact ep_on (p :: l) _ p h
theorem fon_all {c : List Pt} (h : (fon c).length = c.length) : (∀ p, p ∈ c → p.2.2 = true) ∧ fon c = c := by
  have h2 : fon c = c := List.Sublist.eq_of_length (List.filter_sublist) h
  refine ⟨fun p m => ?_, h2⟩
  rw [← h2] at m
  exact (List.mem_filter.mp m).2

/-! moving -/
def mp (x y : Int) (p : Pr) : Pr := (p.1 + x, p.2 + y)
section
variable (x y : Int)
theorem w1_mv (p q : Pt) : w1 (mv x y p) (mv x y q) = (w1 p q).map (mv x y) := by
  have h : mid (mv x y p) (mv x y q) = mv x y (mid p q) := by
    refine Prod.ext ?_ (Prod.ext ?_ rfl)
    · show (p.1 + x + (q.1 + x)) / 2 = (p.1 + q.1) / 2 + x
      omega
    · show (p.2.1 + y + (q.2.1 + y)) / 2 = (p.2.1 + q.2.1) / 2 + y
      omega
  have e1 : (mv x y p).2.2 = p.2.2 := rfl
  have e2 : (mv x y q).2.2 = q.2.2 := rfl
  unfold w1
  rw [e1, e2, h]
  split
  · rfl
  · split <;> rfl
theorem wp_mv : ∀ (l : List Pt) (nx : Pt), wp (l.map (mv x y)) (mv x y nx) = (wp l nx).map (mv x y)
  | [], _ => rfl
  | [p], nx => w1_mv x y p nx
  | p :: q :: l, nx => by
    have ih := wp_mv (q :: l) nx
    show w1 (mv x y p) (mv x y q) ++ wp ((q :: l).map (mv x y)) (mv x y nx) = (w1 p q ++ wp (q :: l) nx).map (mv x y)
    rw [ih, w1_mv, List.map_append]
theorem wm_mv (c : List Pt) : wm (c.map (mv x y)) = (wm c).map (mv x y) := by
  cases c with
  | nil => rfl
  | cons p l => exact wp_mv x y (p :: l) p
theorem ps_mv (c : List Pt) : ps (c.map (mv x y)) = ps c := by
  unfold ps
  rw [List.length_map]
  apply List.filter_congr
  intro i hi
  have hi := List.mem_range.mp hi
  have hx : c[i]? = some c[i] := List.getElem?_eq_getElem hi
  have hy : (c.map (mv x y))[i]? = some (mv x y c[i]) := by rw [List.getElem?_map, hx]; rfl
  rw [getD_of hx, getD_of hy]
  rfl
theorem beg_map {α β : Type} (f : α → β) (c : List α) (k : Nat) : beg (c.map f) k = (beg c k).map f := by
  unfold beg
  rw [List.map_append, List.map_drop, List.map_take]
theorem ro_mv (c : List Pt) : ro (c.map (mv x y)) = (ro c).map (mv x y) := by
  unfold ro
  rw [ps_mv, wm_mv]
  cases ps c with
  | nil =>
    show ((wm c).map (mv x y)).drop (((wm c).map (mv x y)).length - 1) ++ ((wm c).map (mv x y)).dropLast = ((wm c).drop ((wm c).length - 1) ++ (wm c).dropLast).map (mv x y)
    rw [List.map_append, List.map_drop, List.length_map, List.map_dropLast]
  | cons k l =>
    show wm (beg (c.map (mv x y)) k) = (wm (beg c k)).map (mv x y)
    rw [beg_map, wm_mv]
theorem cv_mv {n : Int} (h0 : 1 ≤ n) (h1 : n ≤ 7) (a c b z : Int) : cv n (a + z) (c + z) (b + z) = cv n a c b + z := by
  unfold cv
  rcases (by omega : n = 1 ∨ n = 2 ∨ n = 3 ∨ n = 4 ∨ n = 5 ∨ n = 6 ∨ n = 7) with rfl | rfl | rfl | rfl | rfl | rfl | rfl <;> omega
theorem e1_mv (a p b : Pt) : e1 (mv x y a) (mv x y p) (mv x y b) = (e1 a p b).map (mp x y) := by
  have e1' : (mv x y p).2.2 = p.2.2 := rfl
  unfold e1
  rw [e1']
  split
  · rfl
  · unfold cv7
    rw [List.map_map]
    apply List.map_congr_left
    intro n hn
    have hn := List.mem_range.mp hn
    exact Prod.ext (cv_mv (by omega) (by omega) _ _ _ _) (cv_mv (by omega) (by omega) _ _ _ _)
theorem ep_mv : ∀ (l : List Pt) (pv nx : Pt), ep (mv x y pv) (l.map (mv x y)) (mv x y nx) = (ep pv l nx).map (mp x y)
  | [], _, _ => rfl
  | [p], pv, nx => e1_mv x y pv p nx
  | p :: q :: l, pv, nx => by
    have ih := ep_mv (q :: l) p nx
    show e1 (mv x y pv) (mv x y p) (mv x y q) ++ ep (mv x y p) ((q :: l).map (mv x y)) (mv x y nx) = (e1 pv p q ++ ep p (q :: l) nx).map (mp x y)
    rw [ih, e1_mv, List.map_append]
theorem lnOf_mv (c : List Pt) : lnOf (c.map (mv x y)) = (lnOf c).map (mp x y) := by
  rw [lnOf_er, lnOf_er, ro_mv]
  cases ro c with
  | nil => rfl
  | cons r l =>
    have hg : ((r :: l).map (mv x y)).getLast (by simp) = mv x y ((r :: l).getLast (by simp)) := List.getLast_map (by simp)
    show ep (((r :: l).map (mv x y)).getLast (by simp)) ((r :: l).map (mv x y)) (mv x y r) = (ep ((r :: l).getLast (by simp)) (r :: l) r).map (mp x y)
    rw [hg, ep_mv]
end
end Fl
namespace Fl
open PySem PySem.Spec PyProof.Rows L2
theorem fon_fm (c : List Pt) : (List.range c.length).filterMap (fun i => if (c.getD i p0).2.2 = true then some (prD (pr (c.getD i p0))) else none) = ((fon c).map pr).map prD := by
  rw [fm_filter (fun i => (c.getD i p0).2.2) (fun i => prD (pr (c.getD i p0))), fon_ps, List.map_map, List.map_map]
  rfl
theorem xs_one (c : List Pt) : xsOf [c] = c.map fun p => p.1 := by unfold xsOf; simp
theorem ys_one (c : List Pt) : ysOf [c] = c.map fun p => p.2.1 := by unfold ysOf; simp
/-- a box of one contour -/
theorem box_one {c : List Pt} (h : c ≠ []) : ∃ x1 y1 x2 y2 : Int, (IsMin x1 (xsOf [c]) ∧ IsMin y1 (ysOf [c]) ∧ IsMax x2 (xsOf [c]) ∧ IsMax y2 (ysOf [c])) ∧ ∀ z, z ∈ lnOf c → (x1 ≤ z.1 ∧ z.1 ≤ x2) ∧ y1 ≤ z.2 ∧ z.2 ≤ y2 := by
  obtain ⟨x1, m1⟩ := ex_min (xsOf [c]) (by rw [xs_one]; simpa using h)
  obtain ⟨y1, m2⟩ := ex_min (ysOf [c]) (by rw [ys_one]; simpa using h)
  obtain ⟨x2, m3⟩ := ex_max (xsOf [c]) (by rw [xs_one]; simpa using h)
  obtain ⟨y2, m4⟩ := ex_max (ysOf [c]) (by rw [ys_one]; simpa using h)
  refine ⟨x1, y1, x2, y2, ⟨m1, m2, m3, m4⟩, ln_box fun p hp => ?_⟩
  have a1 : p.1 ∈ xsOf [c] := by rw [xs_one]; exact List.mem_map.mpr ⟨p, hp, rfl⟩
  have a2 : p.2.1 ∈ ysOf [c] := by rw [ys_one]; exact List.mem_map.mpr ⟨p, hp, rfl⟩
  exact ⟨⟨m1.2 _ a1, m3.2 _ a1⟩, m2.2 _ a2, m4.2 _ a2⟩
theorem sh_pr (p : Pr) : SeqAt.shaped (prD p) = true := by
  have h := pr_lay p
  unfold SeqAt.shaped
  rw [h.1, Bool.true_and, decide_eq_true_eq]
  omega
theorem sh_nil : SeqAt.shaped (PyData.list []) = true := sh_list (n := 0) (fun _ m => nomatch m) (by decide)
theorem eqv_cons_nil (x : PyData) (l : List PyData) : PyData.eqv (.list (x :: l)) (.list []) = false := by simp [PyData.eqv, PyData.eqvAll]
theorem prE {S : List Addr} {H : Hp} {v : V} {p : Pr} (h : Dq S H v (prD p)) : ∃ a, v = .ref a ∧ a ∉ S ∧ H a = some (.tup [.int p.1, .int p.2]) := by
  obtain ⟨a, xs, rfl, n, q, r⟩ := h.tupE
  obtain ⟨x1, w1, rfl, h1, r⟩ := r.consE
  obtain ⟨x2, w2, rfl, h2, r⟩ := r.consE
  cases r.nilE
  cases h1.intE
  cases h2.intE
  exact ⟨a, rfl, n, q⟩
end Fl
namespace Fl
open PySem PySem.Spec PyProof.Rows L2
theorem g_andF {k : Bool} {t2 : TT} {σ : L2.St} {H : Hp} {Q : Bool → Hp → Prop} (h : Q false H) (h2 : k = true → Q false H → t2 σ H Q) : if k = true then t2 σ H Q else Q false H := by
  cases k with
  | true => rw [if_pos rfl]; exact h2 rfl h
  | false => rw [if_neg Bool.false_ne_true]; exact h
end Fl

set_option Elab.async false
set_option linter.all false
set_option maxRecDepth 100000
set_option maxHeartbeats 4000000
/-! repr of data; the law's def, called from outside (no guard stands below it) -/
namespace Fl
open PySem PySem.Spec PyProof.Rows L2

/-! ### repr -/
structure Shw (d : PyData) : Prop where
  sh : d.showable = true
  nd : d.hasDict = false
  dp : d.depth ≤ 40
  lv : d.leavesShort 13 = true
  wt : d.weight ≤ 2 ^ 20
def rRp (K : PySem.W.Frag) : List V → Hp → VK → Prop := fun xs H Q => ∃ (a : Addr) (d : PyData), xs = [.ref a] ∧ Dp K H (.ref a) d ∧ Shw d ∧ Q (.str d.shown) H
theorem clRepr {X : Cx} {K : PySem.W.Frag} (e : X.K = K) (hg : X.A.guards = some []) (hu : X.A.units + 64 < cLine) : CallR X (.builtin "repr") (rRp K) := by
  subst e
  intro pins s σ H xs us Q I r h
  obtain ⟨a, d, rfl, hd, hw, q⟩ := h
  obtain ⟨u, rfl, hu1⟩ := vals1 r
  cases hu1
  obtain ⟨as, rd⟩ := Dp.reads I d (.ref a) (.ref a) hd rfl
  have hdp := hw.dp
  refine repr_of_reads' rd hw.sh (fun z => ?_) hg (by omega) (fun b o z => z) (fun h' u tk hk => ⟨.str _, H, I.kept hk, ⟨u, rfl⟩, q⟩) (PyData.shown_fits (B := 13) (by decide) (by decide) hw.lv hw.wt)
  rw [hw.nd] at z
  cases z
theorem g_rp {K : PySem.W.Frag} {H : Hp} {Q : VK} {S : List Addr} {a : Addr} {d : PyData} (h : Dq S H (.ref a) d) (w : Shw d) (q : Q (.str d.shown) H) : rRp K [.ref a] H Q := ⟨a, d, rfl, h.dp w.nd, w, q⟩

/-! ### the law's def -/
def AtLaw (P : Program) (w : World) (K : PySem.W.Frag) (mg : Str → Option Value) (f : Addr) (fd : FuncData) (x : Str) (sp : Sp) : Prop :=
  ∀ base : Heap, K.In base → base.Ns mainGlobals mg → ∀ (s : Shared) (H : Hp) (a : Addr) (Q : VK), Env0 P w K mg base callerA [] s H → BindsTo s fd ⟨[.ref a], []⟩ [(x, .ref a)] → sp [.ref a] H Q E0 →
    codeAny (model P w) callerA (.call (.ref f) ⟨[.ref a], []⟩) (CR CX0 [] P w H s Q E0) s
theorem atLaw_of {P : Program} {w : World} {K : PySem.W.Frag} {mg : Str → Option Value} {k : Nat} {x y : Str} {st : Stmt} {N : List Str} {sp : Sp} {f : Addr} {fd : FuncData} (F : Fun K x x st f fd) (S : FnScope N [y] (defScope st)) (hr : Room (k + 1) callerA)
    (body : ∀ (base : Heap) (cdv : Value) (s : Shared) (H : Hp) (a : Addr) (Q : VK), Room k (callerA.deeper (envOfC x (defScope st) s.heap.objs.size f cdv)) → sp [.ref a] H Q E0 →
      ∃ t, PSs (bx P w K mg base N x st f cdv callerA [] s H E0) (defBody st) t ∧ t { nx := fun _ H' => Q .non H', rt := Q } (start N [.ref a]) H) : AtLaw P w K mg f fd y sp := by
  obtain ⟨_, _, kV, doc, pm, an, cdv, ct, _, rfl, atf, code⟩ := F.ex
  intro base kb nb s H a Q e0 bind hsp
  have here : ∀ {b : Addr} {o : Obj}, base.get? b = some o → s.heap.get? b = some o := fun e => (e0.bs _ _ e).1
  have Ks : K.In s.heap := e0.mod.kin.keeps fun _ _ => here
  have kinds : ∀ z ∈ [(y, Value.ref a)], (defScope st).names.lookup z.1 = some .local ∨ ((defScope st).names.lookup z.1 = some .cell ∧ ((cellsFrom (s.heap.objs.size + 1) (defScope st).names []).lookup z.1).isSome = true) := by
    intro z hz
    obtain rfl := List.mem_singleton.mp hz
    cases S.par y (List.mem_singleton.mpr rfl) with
    | inl q => exact .inl q
    | inr q => exact .inr ⟨q, PySem.W.cellsFrom_some _ _ _ (.inl q)⟩
  have vals : Vals [V.ref a] [Value.ref a] := .cons rfl .nil
  obtain ⟨t, ht, hq⟩ := body base cdv s H a Q (hr.deeper _) hsp
  exact codeAny_call_function hr.depth (Ks _ _ atf) rfl S.co S.gen rfl (PySem.W.codeRec_of Ks code) (bind _ _ _ _ (wpAny_newFunctionEnv_cells S.kind kinds (fun env he s1 z => by
    subst he
    refine ⟨(e0.mod.nolimit.keeps fun _ _ => here).keeps z.toInCall.keep, codeAny_func ?_⟩
    have I := inv_start (N := N) (E := E0) (CX := CX0) S hr.hd e0 rfl vals z
    have R := (PSs.nox (X := cxOf CX0 P w K mg base N x (defScope st) f cdv callerA [] s H E0) ht).run [] s1 (start N [.ref a]) H _ I hq
    exact wpAny_mono R (fun fl s' hs => (match fl, hs with
      | .ret u, ⟨v, σ', H', J, rv, q⟩ => ⟨v, H', J.os, J.bare, J.base, J.hok, rv, q⟩
      | .next, ⟨σ', H', J, q⟩ => ⟨.non, H', J.os, J.bare, J.base, J.hok, rfl, q⟩
      | .brk, ⟨_, _, _, q⟩ => q.elim
      | .cont, ⟨_, _, _, q⟩ => q.elim)) (fun _ _ z => z))))
/-- the goal of the end, from the law's def called from outside: nothing is tracked but the script -/
theorem atLaw_end {l : PySem.W.OpenLaw} {n : Nat} {q : Program} {loose : List Str} {XP : (Str → Option Value) → Heap → Prop} {YP : World → Heap → Prop} {d : DefRec} {K : Params → PySem.W.Frag} {sp : PySem.W.Frag → Sp} {x : Str}
    (hn : l.most = some n) (hn2 : n ≤ sizeLine) (hdf : d.params.defaults = []) (hY : ∀ (w : World) (h : Heap), YP w h → (K w.params).In h)
    (F : ∀ (w : World) (mg : Str → Option Value) (fa : Addr) (h : Heap), (K w.params).In h → h.Ns mainGlobals mg → mg d.name = some (.ref fa) →
      ∃ fd : FuncData, (∀ (s : Shared) (u : Value), BindsTo s fd ⟨[u], []⟩ [(x, u)]) ∧ AtLaw l.prog w (K w.params) mg fa fd x (sp (K w.params)))
    (hsp : ∀ (K : PySem.W.Frag) (H : Hp) (a : Addr) (ns : List Int), ns.length ≤ n → SqL K H a (ns.map V.int) → sp K [.ref a] H (fun v _ => v = .bl true) E0) :
    PySem.W.WalkO q loose XP YP l.row.toRowW d [] (fun f vs => PySem.call f vs) := by
  refine Att.attach_call hn hdf fun w s₀ s₁ mg mb fa o pm cd doc a vs ns G Y ho hd hcd hmg hobj hints hlen hg => ?_
  have Kh := hY w _ Y
  obtain ⟨fd, bind, run⟩ := F w mg fa _ Kh G.T.g hmg
  have vals := vals_ints hints
  -- the script: one of the module's own lists, or the one object that is tracked
  obtain ⟨H, only, sq, hok, none_of, own⟩ : ∃ H : Hp, Only H ∧ SqL (K w.params) H a (ns.map V.int) ∧ HOk l.prog w H s₁.heap ∧ (∀ b, b ≠ a → H b = none) ∧ (H a ≠ none → (K w.params).lookup a = none) := by
    have fits : (ns.map V.int).length ≤ sizeLine := by rw [List.length_map]; exact Nat.le_trans hlen hn2
    cases hk : (K w.params).lookup a with
    | some u =>
      cases hobj.symm.trans (Kh a u hk)
      refine ⟨fun _ => none, fun _ => .inl rfl, .inr ⟨_, vs.toArray, _, hk, rfl, rfl, rfl, ?_, by simpa using vals⟩, fun b u z => (nomatch (show (none : Option HO) = some u from z)), fun _ _ => rfl, fun z => (z rfl).elim⟩
      rw [List.size_toArray, hints.length]
      exact Nat.le_trans hlen hn2
    | none =>
      have at_a : ∀ {b : Addr}, b = a → (if b = a then some (HO.frz { cls := .type "list", data := .seq vs.toArray } (.lst (ns.map V.int))) else none) = some (HO.frz { cls := .type "list", data := .seq vs.toArray } (.lst (ns.map V.int))) := fun e => if_pos e
      refine ⟨fun b => if b = a then some (HO.frz { cls := .type "list", data := .seq vs.toArray } (.lst (ns.map V.int))) else none, fun b => ?_, .inl (.inr ⟨_, at_a rfl⟩), fun b u z => ?_, fun b e => if_neg e, fun _ => rfl⟩
      · rcases Decidable.em (b = a) with e | e
        · exact .inr ⟨_, _, at_a e⟩
        · exact .inl (if_neg e)
      · rcases Decidable.em (b = a) with e | e
        · cases (at_a e).symm.trans z
          exact ⟨by rw [e]; exact hobj, fits, vs, _, vals, by rw [e]; exact hobj⟩
        · cases (if_neg e).symm.trans z
  have keep : ∀ {b : Addr} {u : Obj}, s₁.heap.get? b = some u → H b = none → (hidT s₁.heap H).get? b = some u := fun e z => hidT_get e z
  have plain : ∀ {b : Addr} {u : Obj} {es : Array DictEntry} {ep : Nat}, s₁.heap.get? b = some u → u.data = .dict es ep → H b = none := by
    intro b u es ep e z
    rcases Decidable.em (b = a) with e2 | e2
    · rw [e2] at e
      cases hobj.symm.trans e
      exact (nomatch (show Data.seq vs.toArray _ = Data.dict es ep from z))
    · exact none_of b e2
  have space : ∀ {b : Addr} {m : Str → Option Value}, s₁.heap.Ns b m → (hidT s₁.heap H).Ns b m := fun ⟨u, es, ep, e, z, r⟩ => ⟨u, es, ep, keep e (plain e z), z, r⟩
  have Kb : (K w.params).In (hidT s₁.heap H) := fun b u e => keep (Kh b u e) (by
    rcases Decidable.em (b = a) with e2 | e2
    · cases z : H b with
      | none => rfl
      | some v =>
        rw [e2] at e z
        rw [own (by rw [z]; exact Option.some_ne_none _)] at e
        cases e
    · exact none_of b e2)
  obtain ⟨mc, lim1, lim2⟩ := G.T.nolimit
  have e0 : Env0 l.prog w (K w.params) mg (hidT s₁.heap H) callerA [] s₁ H := ⟨rfl, ⟨Kb, space G.T.g, ⟨mb, space G.T.b, G.T.builtins⟩, ⟨mc, space lim1, lim2⟩⟩, fun b u e => of_hidT e, Nat.le_of_eq (hidT_size _ _), trivial, fun b hb => (nomatch (show b ∈ ([] : List Addr) from hb)), hok, .of_eq hg⟩
  refine codeAny_mono (run _ Kb (space G.T.g) s₁ H a _ e0 (bind s₁ (.ref a)) (hsp _ H a ns hlen sq)) fun r s' h => ?_
  match r, h with
  | .ok (.ret u), ⟨v, H', os, bare, un, hok', rv, q⟩ =>
    obtain rfl : v = .bl true := q
    obtain rfl : u = Value.bool true := rv
    refine ⟨rfl, OldK.of_keep fun b u e => ?_, os, bare⟩
    cases z : H b with
    | none => exact un.keep b u e z (fun m => (nomatch (show b ∈ ([] : List Addr) from m))) (List.not_mem_nil)
    | some v =>
      rcases only b with y | ⟨u2, xs, y⟩
      · cases y.symm.trans z
      · have later := (hok' b _ (un.frzs b u2 _ y)).1
        rw [e.symm.trans (hok b _ y).1]
        exact later
end Fl

set_option Elab.async false
set_option linter.all false
set_option maxRecDepth 100000
set_option maxHeartbeats 4000000
/-! slices of lists backwards, by ones -/
namespace Fl
open PySem PySem.Spec PyProof.Rows L2

/-- what xs[lo:hi:-1] takes -/
def pickR {α : Type} (xs : List α) (lo hi : Option Int) : List α := (let (a, b, c) := sliceBounds lo hi (some (-1)) xs.length; sliceRange a b c).filterMap (xs[·]?)
theorem pick_vals {xs : List V} {its : List Value} (r : Vals xs its) : ∀ ks : List Nat, Vals (ks.filterMap (xs[·]?)) (ks.filterMap (its[·]?))
  | [] => .nil
  | k :: ks => by
    have ih := pick_vals r ks
    have hl := r.length
    rw [List.filterMap_cons, List.filterMap_cons]
    cases hx : xs[k]? with
    | none =>
      have : its[k]? = none := by
        rw [List.getElem?_eq_none_iff] at hx ⊢
        omega
      rw [this]
      exact ih
    | some x =>
      obtain ⟨u, hu, rv⟩ := r.get hx
      rw [hu]
      exact .cons rv ih
def rSlR (K : PySem.W.Frag) : V → Option Int → Option Int → Hp → VK → Prop := fun x lo hi H Q => ∃ a xs, x = .ref a ∧ SqL K H a xs ∧ (pickR xs lo hi).length ≤ xs.length ∧ ∀ p, H p = none → Q (.ref p) (upd H p (.lst (pickR xs lo hi)))
theorem pe_slR {X : Cx} {K : PySem.W.Frag} {e : Expr} {te : TE} {lo hi : Option Expr} {tl th : TO} {k : Nat} {p1 p2 p3 pos : Pos} (eK : X.K = K) (he : PE X e te) (hl : PO X lo tl) (hh : PO X hi th) :
    PE X (.Subscript e (.Slice lo hi (some (.UnaryOp .USub (.Constant (.int 1) k p1) p2)) p3) pos) (L2.tSl (rSlR K) te tl th) := by
  subst eK
  refine ⟨fun pins s σ H Q I h => ?_⟩
  have one : PO X (some (.UnaryOp .USub (.Constant (.int 1) k p1) p2)) (tPart (tUn (rU fun i => .int (-i)) (tC (.int 1)))) := po_some (pe_un un_neg pe_int)
  refine Subscript_ (thn (he.run pins s σ H _ I h) fun v s1 ⟨x, H1, I1, r1, q1⟩ => ?_)
  refine wpAny_Slice (thn (hl.run pins s1 σ H1 _ I1 q1) fun vl s2 ⟨l, H2, I2, pl, q2⟩ => thn (hh.run pins s2 σ H2 _ I2 q2) fun vu s3 ⟨u, H3, I3, pu, a, xs, ex, hx, hz1, q⟩ =>
    thn (one.run pins s3 σ H3 (fun o H4 => o = some (-1) ∧ H4 = H3) I3 ⟨1, rfl, -1, rfl, rfl, rfl⟩) fun vs s4 ⟨o, H4, I4, ps, eo, e4⟩ => ?_)
  subst eo e4 ex
  cases r1
  have I5 : Inv X pins σ H4 { s4 with heap := s4.heap.push { cls := .type "slice", data := .fields #[vl, vu, vs] } } := I4.kept (t' := s4.toks) fun _ _ z => Heap.get?_push_of_some _ z
  obtain ⟨its, r, ht, hz⟩ := I5.list hx
  have hlen := r.length
  have hsz : its.toArray.size ≤ sizeLine := by rw [List.size_toArray]; omega
  refine tail_any (ops := [.ref a, .ref s4.heap.objs.size]) ht.isList.typeIs (PySem.slot_list_getitem.lookup) (wpAny_getItem_list_slice ht.isList (Heap.IsSliceOf.new _ vl vu vs) pl pu ps (by decide) ?_ hsz) (by with_unfolding_all rfl)
  have hp : slicePick its.toArray l u (some (-1)) = (pickR its l u).toArray := by
    unfold slicePick pickR
    simp only [List.size_toArray]
    congr 1
    congr 1
    funext i
    simp
  rw [hp]
  have hv : Vals (pickR xs l u) (pickR its l u) := by
    unfold pickR
    rw [hlen]
    exact pick_vals r _
  exact ⟨.ref _, _, I5.laid (t' := s4.toks) (o := .lst (pickR xs l u)) (fun _ _ z => Heap.get?_push_of_some _ z) (Nat.le_refl _) ⟨Nat.le_trans hz1 hz, _, 0, hv, Heap.get?_push_size _ rfl⟩, rfl, q _ (I5.hok.fresh (Nat.le_refl _))⟩
theorem fmc {α β : Type} {f g : α → Option β} : ∀ {l : List α}, (∀ x, x ∈ l → f x = g x) → l.filterMap f = l.filterMap g
  | [], _ => rfl
  | x :: l, h => by
    rw [List.filterMap_cons, List.filterMap_cons, h x (by simp), fmc fun y m => h y (List.mem_cons_of_mem _ m)]
theorem fm_takeG {α : Type} (rs : List α) : ∀ n : Nat, (List.range n).filterMap (fun i => rs[i]?) = rs.take n
  | 0 => by simp
  | n + 1 => by
    rw [List.range_succ, List.filterMap_append, fm_takeG rs n, List.take_succ]
    cases h : rs[n]? <;> simp [h]
/-- xs[:0:-1] -/
theorem pickR_0 {α : Type} (xs : List α) : pickR xs none (some 0) = (xs.drop 1).reverse := by
  have e0 : pickR xs none (some 0) = (sliceRange ((xs.length : Int) - 1) 0 (-1)).filterMap (xs[·]?) := by
    unfold pickR
    have : sliceBounds none (some 0) (some (-1)) xs.length = ((xs.length : Int) - 1, 0, -1) ∨ xs.length = 0 := by
      rcases Nat.eq_zero_or_pos xs.length with h | h
      · exact .inr h
      · left
        unfold sliceBounds
        simp
        omega
    rcases this with h | h
    · rw [h]
    · have : xs = [] := List.eq_nil_of_length_eq_zero h
      subst this
      rfl
  rw [e0]
  have e1 : sliceRange ((xs.length : Int) - 1) 0 (-1) = (List.range (xs.length - 1)).map fun k => xs.length - 1 - k := by
    unfold sliceRange
    rw [if_neg (by decide)]
    have : (if (xs.length : Int) - 1 > 0 then ((xs.length : Int) - 1 - 0 - -1 - 1) / - -1 else 0).toNat = xs.length - 1 := by
      split
      · rw [show (- -1 : Int) = 1 from rfl, Int.ediv_one]
        omega
      · omega
    show (List.range (if (xs.length : Int) - 1 > 0 then ((xs.length : Int) - 1 - 0 - -1 - 1) / - -1 else 0).toNat).map _ = _
    rw [this]
    refine List.map_congr_left fun k hk => ?_
    have := List.mem_range.mp hk
    omega
  rw [e1]
  rw [List.filterMap_map]
  have e2 : ((List.range (xs.length - 1)).filterMap ((fun x => xs[x]?) ∘ fun k => xs.length - 1 - k)) = (List.range (xs.length - 1)).filterMap fun k => ((xs.drop 1).reverse)[k]? := by
    refine fmc fun k hk => ?_
    have hk := List.mem_range.mp hk
    show xs[xs.length - 1 - k]? = _
    rw [List.getElem?_reverse (by rw [List.length_drop]; omega), List.length_drop, List.getElem?_drop]
    congr 1
    omega
  rw [e2, fm_takeG, List.take_of_length_le (by simp)]
theorem g_slR0 {K : PySem.W.Frag} {H : Hp} {Q : VK} {a : Addr} {xs : List V} (h : SqL K H a xs) (q : ∀ p, H p = none → Q (.ref p) (upd H p (.lst (xs.drop 1).reverse))) : rSlR K (.ref a) none (some 0) H Q :=
  ⟨a, xs, rfl, h, by rw [pickR_0]; simp, by rw [pickR_0]; exact q⟩
end Fl

set_option Elab.async false
set_option linter.all false
set_option maxRecDepth 100000
set_option maxHeartbeats 4000000
/-! list(reversed(xs)), xs a list -/
namespace Fl
open PySem PySem.Spec PyProof.Rows L2
section
variable {prog : Program} {w : World} {A : Around} {E : Value → Shared → Prop} {s : Shared}
abbrev nilO : Obj := { cls := .type "list", data := .seq #[] }
/-- S.extend(it), S a new list, it a list's iterator from its end -/
theorem ext_rev {it l S : Addr} {items : Array Value} {c0 : Nat} {R : Result → Shared → Prop} (hh : A.handled = none) (hit : s.heap.IsRevIter it l ((items.size : Int) - 1)) (hl : s.heap.IsList l items) (hne : l ≠ it) (hn : items.size ≤ sizeLine)
    (hSf : S ∉ [it, l]) (hS : s.heap.get? S = some { cls := .type "list", data := .seq #[] c0 })
    (hR : ∀ s' acc' c', Moved [S, it] (fun a b => b = a) s s' → s'.heap.get? S = some { cls := .type "list", dict := none, data := .seq acc' c', slots := #[] } → ItemsOf (fun i v => items[items.size - 1 - i]? = some v) acc' items.size → R (.ok (.ret .none)) s') :
    wpAny (model prog w) A.in1 (Builtin.List.listExtendWith (.ref S) (.ref it) .none)
      (fun fin s' => match fin with | .done f => R (.ok f) s' | .again c' => c'.quiet = true ∧ codeAny (model prog w) A c' R s') (fun e s' => R (.error e) s') s := by
  have W := (Walks.listRev (prog := prog) (w := w) (A := A.in1) hh it l hne items).toS
  have T := hit.typeIs (s := s)
  have ne : S ≠ it := fun e => hSf (by rw [e]; exact List.mem_cons_self)
  have same : Builtin.List.listSameRef (.ref S) (.ref it) = false := by simp [Builtin.List.listSameRef, ne]
  unfold Builtin.List.listExtendWith
  refine wpAny_bind (wpAny_typeOf T ?_); rw [if_neg (by rw [same]; decide)]
  refine wpAny_bind (wpAny_pyIter_revIter hit ?_); refine wpAny_bind (wpAny_holding ?_)
  unfold Builtin.List.listLengthHint
  refine wpAny_bind (wpAny_specialOf T RT.nolen_lri ?_); show wpAny _ A.in1 (specialOf (Value.ref it) (Str.ofString "__length_hint__") >>= _) _ _ s
  refine wpAny_bind (wpAny_specialOf T RT.hint_lri ?_); generalize hid : ("list_reverseiterator.__length_hint__" : String) = id0
  wp_delta
  rw [show splitId id0 = some ("list_reverseiterator", "__length_hint__") from by subst hid; decide +kernel]; subst hid
  refine wpAny_bind (wpAny_isInstance (b := true) T (by rw [isSubtype_type]; kernel_rfl) (wpAny_pure ?_)); rw [if_neg (by decide)]
  have e0 : ((items.size : Nat) : Int) - 1 - ((0 : Nat) : Int) = (items.size : Int) - 1 := Int.sub_zero _
  refine wpAny_pure ⟨plainId_quiet F.plain_extend_loop _, codeAny_extend_loopS W hn _ hSf _ items.size 0 _ _ _ rfl (Nat.zero_le _) ⟨Nat.zero_le _, by rw [e0]; exact hit, hl⟩ hS (ItemsOf.nil _) hR⟩
theorem make_rev {it l : Addr} {items : Array Value} {Q : Value → Shared → Prop} (hh : A.handled = none) (hit : s.heap.IsRevIter it l ((items.size : Int) - 1)) (hl : s.heap.IsList l items) (hne : l ≠ it) (hn : items.size ≤ sizeLine)
    (hQ : ∀ s' acc' c', Moved [s.heap.objs.size, it] (fun a b => b = a) { s with heap := s.heap.push nilO } s' → s'.heap.get? s.heap.objs.size = some { cls := .type "list", dict := none, data := .seq acc' c', slots := #[] } →
      ItemsOf (fun i v => items[items.size - 1 - i]? = some v) acc' items.size → Q (.ref s.heap.objs.size) s') : wpAny (model prog w) A (call (.type "list") [.ref it]) Q E s := by
  obtain ⟨oi, hoi, _⟩ := id hit
  obtain ⟨ol, hol, _⟩ := id hl
  have n1 : s.heap.objs.size ≠ it := Nat.ne_of_gt (Heap.lt_size hoi)
  have n2 : s.heap.objs.size ≠ l := Nat.ne_of_gt (Heap.lt_size hol)
  refine callType_codes (Q₁ := fun obj s₁ => obj = .ref s.heap.objs.size ∧ s₁ = { s with heap := s.heap.push nilO }) F.called_list (F.typeCall_list_1 _) F.entry_list_init (code_list_new _ ⟨rfl, rfl⟩) fun obj s₁ ⟨e1, e2⟩ => ?_
  subst e1 e2
  have hS : (s.heap.push nilO).get? s.heap.objs.size = some nilO := Heap.get?_push_size _ rfl
  refine ⟨⟨_, hS, rfl⟩, F.args_list_init_2 _ _, ?_⟩
  show wpAny _ A.in1.in1 (do let old ← Builtin.List.listItems (.ref s.heap.objs.size); Builtin.List.listUpdate (.ref s.heap.objs.size) (fun _ => #[]); letGo old.toList.reverse; Builtin.List.listExtendWith (.ref s.heap.objs.size) (.ref it) .none) _ _ _
  unfold Builtin.List.listItems
  refine wpAny_bind (wpAny_bind (wpAny_seqItems hS rfl (wpAny_pure ?_)))
  all_goals first
    | (refine wpAny_bind (wpAny_updateSeq hS rfl (wpAny_bind (wpAny_letGo ?_)))
       have hS2 := Heap.get?_update_self (Obj.mapSeq (fun _ => (#[] : Array Value))) hS rfl
       have oth : ∀ b o, b ≠ s.heap.objs.size → s.heap.get? b = some o → ((s.heap.push nilO).update s.heap.objs.size (Obj.mapSeq (fun _ => (#[] : Array Value)))).get? b = some o := fun b o hb e => (Heap.get?_update_other _ _ (Ne.symm hb)).trans (Heap.get?_push_of_some _ e)
       refine ext_rev (A := A.in1) hh (hit.at fun o e => oth it o (Ne.symm n1) e) (hl.at fun o e => oth l o (Ne.symm n2) e) hne hn (by simp [n1, n2]) hS2 fun s' acc' c' hm hS' hacc => ?_
       refine ⟨rfl, hQ s' acc' c' (Moved.trans (G := fun a b => b = a) (fun a b c h k => k.trans h) ((Moved.refl (G := fun a b => b = a) fun _ => rfl).then_heap (Nat.le_refl _) fun b o hb e => ?_) hm) hS' hacc⟩
       exact (Heap.get?_update_other _ _ (fun z => hb (by rw [z]; exact List.mem_cons_self))).trans e)
end
/-- list(reversed(x)), x a list: a new list -/
def tListRev (K : PySem.W.Frag) (te : TE) : TE := fun σ H Q => te σ H fun v H1 => ∃ (a : Addr) (xs : List V), v = .ref a ∧ SqL K H1 a xs ∧ ∀ q, H1 q = none → Q (.ref q) (upd H1 q (.lst xs.reverse))
theorem pe_listRev {X : Cx} {K : PySem.W.Frag} {e : Expr} {te : TE} {p p2 pos pos2 : Pos} (eK : X.K = K) (hc : X.calm = true) (hg : Gl X "list") (hm : X.mg "list" = none) (hg2 : Gl X "reversed") (hm2 : X.mg "reversed" = none) (he : PE X e te)
    (hs : starEach [e] X.env = (false, eval e X.env) :: starEach [] X.env := by rfl)
    (hs2 : starEach [.Call (.Name "reversed" p2) [e] [] pos2] X.env = (false, eval (.Call (.Name "reversed" p2) [e] [] pos2) X.env) :: starEach [] X.env := by rfl) :
    PE X (.Call (.Name "list" p) [.Call (.Name "reversed" p2) [e] [] pos2] [] pos) (tListRev K te) := by
  subst eK
  refine ⟨fun pins s σ H Q I h => Call_ (ld_blt I hg hm boot_list (PyProof.Rows.callWith_type1 (args_cons (Call_ (ld_blt I hg2 hm2 PyProof.Rows.boot_reversed (PyProof.Rows.callWith_type1 (args_cons (thn (he.run pins s σ H _ I h) fun u s1 ⟨v, H1, I1, r1, a, xs, ev, hq, q⟩ => args_nil ?_) hs) hs rfl))) hs2) hs2 rfl))⟩
  subst ev
  obtain rfl : u = Value.ref a := r1
  obtain ⟨its, rv, pl, hz⟩ := I1.list hq
  have hl := pl.isList
  have hlen := rv.length
  obtain ⟨ol, hol, _⟩ := id hl
  refine call_reversed_list hl (args_nil ?_)
  have I2 : Inv X pins σ H1 { s1 with heap := s1.heap.push (revObj a ((its.toArray.size : Int) - 1)) } := I1.kept (t' := s1.toks) fun b o z => Heap.get?_push_of_some _ z
  obtain ⟨f0, f1, f2, f3, f4, f5⟩ := I1.fpOk (H' := H1) (b := s1.heap.objs.size) (Nat.le_refl _) (I1.hok.fresh (Nat.le_refl _))
  refine make_rev (s := { s1 with heap := s1.heap.push (revObj a ((its.toArray.size : Int) - 1)) }) (items := its.toArray) (I1.ok.hd hc) ⟨_, Heap.get?_push_size _ rfl, rfl, rfl⟩ (hl.push _) (Nat.ne_of_lt (Heap.lt_size hol)) (by rw [List.size_toArray]; omega) fun s' acc' c' hm hS hi => ?_
  rw [Moved.eq_with hm]
  have new : H1 (s1.heap.objs.size + 1) = none := I1.hok.fresh (Nat.le_succ _)
  have at1 : ({ s1 with heap := s1.heap.push (revObj a ((its.toArray.size : Int) - 1)) } : Shared).heap.objs.size = s1.heap.objs.size + 1 := by simp [Heap.push]
  rw [at1] at hS hm ⊢
  have keep : ∀ b o, b ≠ s1.heap.objs.size → b ≠ s1.heap.objs.size + 1 → ((s1.heap.push (revObj a ((its.toArray.size : Int) - 1))).push nilO).get? b = some o → s'.heap.get? b = some o := fun b o n n1 z => hm.heap b o (by simp [n, n1]) z
  have I3 : Inv X pins σ (upd H1 (s1.heap.objs.size + 1) (.lst [])) { s1 with heap := (s1.heap.push (revObj a ((its.toArray.size : Int) - 1))).push nilO } :=
    I2.laid (t' := s1.toks) (fun b o z => Heap.get?_push_of_some _ z) (Nat.le_of_eq at1) ⟨Nat.zero_le _, [], 0, .nil, by rw [← at1]; exact Heap.get?_push_size _ rfl⟩
  have n2 : s1.heap.objs.size ≠ s1.heap.objs.size + 1 := Nat.ne_of_lt (Nat.lt_succ_self _)
  have mid : (s'.heap.update (s1.heap.objs.size + 1) (fun _ => nilO)).get? (s1.heap.objs.size + 1) = some nilO := Heap.get?_update_self _ hS rfl
  have I4 : Inv X pins σ (upd H1 (s1.heap.objs.size + 1) (.lst [])) { s1 with heap := s'.heap.update (s1.heap.objs.size + 1) (fun _ => nilO), toks := s'.toks } := by
    refine I3.turned (t' := s'.toks) (fun b o n z => ?_) (by rw [upd_ne n2]; exact I1.hok.fresh (Nat.le_refl _)) f1 f3 f4 f5
    by_cases e : b = s1.heap.objs.size + 1
    · subst e
      rw [← at1] at z
      rw [Heap.get?_push_size _ rfl] at z
      cases z
      exact mid
    · exact (Heap.get?_update_other _ _ (Ne.symm e)).trans (keep b o n e z)
  have I5 : Inv X pins σ (upd (upd H1 (s1.heap.objs.size + 1) (.lst [])) (s1.heap.objs.size + 1) (.lst xs.reverse)) { s1 with heap := s'.heap, toks := s'.toks } :=
    I4.write (by rw [upd_same]; trivial) (.inl rfl) (fun b o n z => by rw [← z]; exact (Heap.get?_update_other _ _ (Ne.symm n)).symm) ⟨_, hS⟩ ⟨by rw [List.length_reverse]; exact hz, acc'.toList, c', RT.vals_rev rv hi, by rw [hS]⟩
  refine ⟨.ref _, _, I5, rfl, ?_⟩
  rw [upd_upd]
  exact q _ new
end Fl

set_option Elab.async false
set_option linter.all false
set_option maxRecDepth 100000
set_option maxHeartbeats 4000000
/-! turning sums, reversed contours: the mathematics -/
namespace Fl
open PySem PySem.Spec PyProof.Rows L2

def cr (p q : Pt) : Int := p.1 * q.2.1 - q.1 * p.2.1
/-- over a path -/
def pa : List Pt → Int
  | p :: q :: l => cr p q + pa (q :: l)
  | _ => 0
def tc (c : List Pt) : Int := ((c.zip (beg c 1)).map fun z => cr z.1 z.2).sum
def ts (o : List (List Pt)) : Int := (o.map tc).sum
def rv (c : List Pt) : List Pt := c.take 1 ++ (c.drop 1).reverse
theorem pa_app : ∀ (u : List Pt) (x : Pt) (v : List Pt), pa (u ++ x :: v) = pa (u ++ [x]) + pa (x :: v)
  | [], x, v => by simp [pa]
  | [y], x, v => by simp [pa]
  | y :: z :: u, x, v => by
    have ih := pa_app (z :: u) x v
    show cr y z + pa (z :: u ++ x :: v) = cr y z + pa (z :: u ++ [x]) + pa (x :: v)
    rw [ih, Int.add_assoc]
theorem pa_rev : ∀ l : List Pt, pa l.reverse = -pa l
  | [] => rfl
  | [_] => rfl
  | p :: q :: l => by
    have ih := pa_rev (q :: l)
    rw [List.reverse_cons] at ih
    rw [List.reverse_cons, List.reverse_cons, List.append_assoc]
    show pa (l.reverse ++ q :: [p]) = -(cr p q + pa (q :: l))
    rw [pa_app, ih]
    show -pa (q :: l) + (cr q p + 0) = _
    unfold cr
    omega
theorem tc_pa (p : Pt) (l : List Pt) : tc (p :: l) = pa (p :: l ++ [p]) := by
  have key : ∀ (l : List Pt) (p x : Pt), (((p :: l).zip (l ++ [x])).map fun z => cr z.1 z.2).sum = pa (p :: l ++ [x]) := by
    intro l
    induction l with
    | nil => intro p x; simp [pa]
    | cons q l ih =>
      intro p x
      have := ih q x
      show (cr p q :: ((q :: l).zip (l ++ [x])).map fun z => cr z.1 z.2).sum = cr p q + pa (q :: l ++ [x])
      rw [List.sum_cons, this]
  exact key l p p
theorem tc_rv (c : List Pt) : tc (rv c) = -tc c := by
  cases c with
  | nil => rfl
  | cons p l =>
    show tc (p :: l.reverse) = _
    rw [tc_pa, tc_pa, ← pa_rev]
    congr 1
    simp
theorem ts_rv (o : List (List Pt)) : ts (o.map rv) = -ts o := by
  unfold ts
  induction o with
  | nil => rfl
  | cons c o ih =>
    rw [List.map_cons, List.map_cons, List.sum_cons, List.map_cons, List.sum_cons, ih, tc_rv]
    omega
theorem rv_rv (c : List Pt) : rv (rv c) = c := by
  cases c with
  | nil => rfl
  | cons p l =>
    show p :: l.reverse.reverse = _
    rw [List.reverse_reverse]
theorem rv_len (c : List Pt) : (rv c).length = c.length := by
  cases c with
  | nil => rfl
  | cons p l =>
    show (p :: l.reverse).length = _
    simp
theorem rv_mem {c : List Pt} {x : Pt} : x ∈ rv c ↔ x ∈ c := by
  cases c with
  | nil => rfl
  | cons p l =>
    show x ∈ p :: l.reverse ↔ _
    simp
/-! turn by turn -/
def tz (c : List Pt) (i : Nat) : Int := (((c.zip (beg c 1)).take i).map fun z => cr z.1 z.2).sum
theorem tz_zero (c : List Pt) : tz c 0 = 0 := rfl
theorem tz_all (c : List Pt) : tz c c.length = tc c := by
  unfold tz tc
  rw [List.take_of_length_le (by rw [List.length_zip, beg_len]; omega)]
theorem beg1_get {c : List Pt} {i : Nat} (h : i < c.length) : (beg c 1)[i]? = c[(i + 1) % c.length]? := by
  unfold beg
  rcases Nat.lt_or_ge (i + 1) c.length with g | g
  · rw [Nat.mod_eq_of_lt g, List.getElem?_append_left (by rw [List.length_drop]; omega), List.getElem?_drop, Nat.add_comm]
  · have e : i + 1 = c.length := by omega
    rw [e, Nat.mod_self, List.getElem?_append_right (by rw [List.length_drop]; omega), List.length_drop]
    have : i - (c.length - 1) = 0 := by omega
    rw [this]
    cases c with
    | nil => cases h
    | cons p l => rfl
theorem tz_succ {c : List Pt} {i : Nat} {p q : Pt} (hp : c[i]? = some p) (hq : (beg c 1)[i]? = some q) : tz c (i + 1) = tz c i + cr p q := by
  unfold tz
  rw [take_zip hp hq, List.map_append, List.sum_append]
  simp
theorem cr_big {p q : Pt} (hp : PtIn (10 ^ 6) p) (hq : PtIn (10 ^ 6) q) : (cr p q).natAbs ≤ 2 * 10 ^ 12 ∧ (p.1 * q.2.1).natAbs ≤ 10 ^ 12 ∧ (q.1 * p.2.1).natAbs ≤ 10 ^ 12 := by
  obtain ⟨a1, a2, a3, a4⟩ := hp
  obtain ⟨b1, b2, b3, b4⟩ := hq
  have h1 : (p.1 * q.2.1).natAbs ≤ 10 ^ 12 := by
    rw [Int.natAbs_mul]
    exact Nat.le_trans (Nat.mul_le_mul (show p.1.natAbs ≤ 10 ^ 6 by omega) (show q.2.1.natAbs ≤ 10 ^ 6 by omega)) (by decide)
  have h2 : (q.1 * p.2.1).natAbs ≤ 10 ^ 12 := by
    rw [Int.natAbs_mul]
    exact Nat.le_trans (Nat.mul_le_mul (show q.1.natAbs ≤ 10 ^ 6 by omega) (show p.2.1.natAbs ≤ 10 ^ 6 by omega)) (by decide)
  refine ⟨?_, h1, h2⟩
  unfold cr
  omega
/-! how data is shown -/
structure Sw (k W : Nat) (d : PyData) : Prop where
  sh : d.showable = true
  nd : d.hasDict = false
  lv : d.leavesShort 13 = true
  dp : d.depth ≤ k
  wt : d.weight ≤ W
theorem Sw.shw {k W : Nat} {d : PyData} (h : Sw k W d) (hk : k ≤ 40) (hW : W ≤ 2 ^ 20) : Shw d := ⟨h.sh, h.nd, Nat.le_trans h.dp hk, h.lv, Nat.le_trans h.wt hW⟩
theorem Sw.mono {k W j U : Nat} {d : PyData} (h : Sw k W d) (hk : k ≤ j) (hW : W ≤ U) : Sw j U d := ⟨h.sh, h.nd, h.lv, Nat.le_trans h.dp hk, Nat.le_trans h.wt hW⟩
theorem Sw.all {k W : Nat} : ∀ ds : List PyData, (∀ d, d ∈ ds → Sw k W d) → PyData.showableAll ds = true ∧ PyData.hasDictAll ds = false ∧ PyData.leavesShortAll 13 ds = true ∧ PyData.depthAll ds ≤ k ∧ PyData.weightAll ds ≤ (W + 1) * ds.length
  | [], _ => by simp [PyData.showableAll, PyData.hasDictAll, PyData.leavesShortAll, PyData.depthAll, PyData.weightAll]
  | d :: ds, h => by
    obtain ⟨a, b, c, e, f⟩ := h d (by simp)
    obtain ⟨a2, b2, c2, e2, f2⟩ := Sw.all ds fun e m => h e (List.mem_cons_of_mem _ m)
    refine ⟨by simp [PyData.showableAll, a, a2], by simp [PyData.hasDictAll, b, b2], by simp [PyData.leavesShortAll, c, c2], ?_, ?_⟩
    · simp only [PyData.depthAll]
      omega
    · simp only [PyData.weightAll, List.length_cons, Nat.mul_succ]
      omega
theorem Sw.lst {k W : Nat} {ds : List PyData} (h : ∀ d, d ∈ ds → Sw k W d) : Sw (k + 1) ((W + 1) * ds.length) (.list ds) := by
  obtain ⟨a, b, c, e, f⟩ := Sw.all ds h
  exact ⟨by simpa [PyData.showable] using a, by simpa [PyData.hasDict] using b, by simpa [PyData.leavesShort] using c, by simp only [PyData.depth]; omega, by simp only [PyData.weight]; omega⟩
theorem Sw.tup {k W : Nat} {ds : List PyData} (h : ∀ d, d ∈ ds → Sw k W d) : Sw (k + 1) ((W + 1) * ds.length) (.tuple ds) := by
  obtain ⟨a, b, c, e, f⟩ := Sw.all ds h
  exact ⟨by simpa [PyData.showable] using a, by simpa [PyData.hasDict] using b, by simpa [PyData.leavesShort] using c, by simp only [PyData.depth]; omega, by simp only [PyData.weight]; omega⟩
theorem Sw.int {i : Int} (h : i.natAbs < 10 ^ 12) : Sw 0 41 (.int i) := by
  have h2 : i.natAbs < 2 ^ 41 := Nat.lt_of_lt_of_le h (by decide)
  have l : i.natAbs.log2 ≤ 40 := by
    rcases Nat.eq_zero_or_pos i.natAbs with z | z
    · rw [z]; decide
    · have := (Nat.log2_lt (k := 41) (by omega)).mpr h2
      omega
  refine ⟨?_, rfl, ?_, Nat.le_refl _, ?_⟩
  · simp only [PyData.showable, decide_eq_true_eq]
    omega
  · simp only [PyData.leavesShort, decide_eq_true_eq]
    exact PyData.shown_int_le h
  · simp only [PyData.weight]
    split <;> omega
theorem Sw.bl {b : Bool} : Sw 0 0 (.bool b) := ⟨rfl, rfl, rfl, Nat.le_refl _, Nat.le_refl _⟩
theorem Sw.int20 {i : Int} (h : i.natAbs ≤ 10 ^ 6) : Sw 0 20 (.int i) := by
  obtain ⟨a, b, c, d, _⟩ := Sw.int (i := i) (by omega)
  refine ⟨a, b, c, d, ?_⟩
  have l : i.natAbs.log2 ≤ 19 := by
    rcases Nat.eq_zero_or_pos i.natAbs with z | z
    · rw [z]; decide
    · have := (Nat.log2_lt (k := 20) (by omega)).mpr (Nat.lt_of_le_of_lt h (by decide))
      omega
  simp only [PyData.weight]
  split <;> omega
theorem sw_pt {p : Pt} (h : PtIn (10 ^ 6) p) : Sw 1 63 (ptD p) := by
  obtain ⟨h1, h2, h3, h4⟩ := h
  refine (Sw.tup (k := 0) (W := 20) fun d m => ?_).mono (Nat.le_refl _) (by show (20 + 1) * 3 ≤ 63; decide)
  simp only [List.mem_cons, List.not_mem_nil, or_false] at m
  rcases m with rfl | rfl | rfl
  · exact Sw.int20 (by omega)
  · exact Sw.int20 (by omega)
  · exact Sw.bl.mono (Nat.le_refl _) (by decide)
theorem sw_ct {c : List Pt} {n : Nat} (h : ∀ p, p ∈ c → PtIn (10 ^ 6) p) (hn : c.length ≤ n) : Sw 2 (64 * n) (ctD c) := by
  refine (Sw.lst (k := 1) (W := 63) fun d m => ?_).mono (Nat.le_refl _) (by rw [List.length_map]; omega)
  obtain ⟨p, hp, rfl⟩ := List.mem_map.mp m
  exact sw_pt (h p hp)
theorem sw_ou {o : List (List Pt)} {n : Nat} (h : ∀ c, c ∈ o → c.length ≤ n ∧ ∀ p, p ∈ c → PtIn (10 ^ 6) p) : Sw 3 ((64 * n + 1) * o.length) (ouD o) := by
  refine (Sw.lst (k := 2) (W := 64 * n) fun d m => ?_).mono (Nat.le_refl _) (by rw [List.length_map]; exact Nat.le_refl _)
  obtain ⟨c, hc, rfl⟩ := List.mem_map.mp m
  exact sw_ct (h c hc).2 (h c hc).1
end Fl
namespace Fl
open PySem PySem.Spec PyProof.Rows L2
def fTs (ds : List PyData) (d : PyData) : Prop := ∃ o : List (List Pt), ds = [ouD o] ∧ o.length ≤ 100 ∧ (∀ c, c ∈ o → c.length ≤ 100 ∧ ∀ p, p ∈ c → PtIn (10 ^ 6) p) ∧ d = .int (ts o)
def fRv (ds : List PyData) (d : PyData) : Prop := ∃ o : List (List Pt), ds = [ouD o] ∧ o.length ≤ 100 ∧ (∀ c, c ∈ o → c.length ≤ 100) ∧ d = ouD (o.map rv)
theorem ts_take {o : List (List Pt)} {i : Nat} {c : List Pt} (h : o[i]? = some c) : ((o.take (i + 1)).map tc).sum = ((o.take i).map tc).sum + tc c := by
  rw [List.take_succ, h, List.map_append, List.sum_append]
  simp
theorem md_cast (i n : Nat) : ((i : Int) + 1) % (n : Int) = (((i + 1) % n : Nat) : Int) := by
  rw [Int.natCast_emod]
  rfl
theorem sz12 {n : Int} (h : n.natAbs ≤ 10 ^ 12) : n.natAbs < 2 ^ 4000 := Nat.lt_of_le_of_lt h (by decide +kernel)
theorem sz6 {n : Int} (h1 : -(10 ^ 6) ≤ n) (h2 : n ≤ 10 ^ 6) : n.natAbs < 2 ^ 4000 := sz12 (by omega)
end Fl
namespace Fl
open PySem PySem.Spec PyProof.Rows L2
section
variable {K : PySem.W.Frag} {H : Hp} {Q : VK} {a : Addr} {xs : List V} {te : TE} {σ : L2.St}
theorem g_lrev (h : te σ H fun v H1 => ∃ (a : Addr) (xs : List V), v = .ref a ∧ SqL K H1 a xs ∧ ∀ q, H1 q = none → Q (.ref q) (upd H1 q (.lst xs.reverse))) : tListRev K te σ H Q := h
theorem g_lrev2 {Q : Addr → List V → Prop} (h : SqL K H a xs) (q : Q a xs) : ∃ (b : Addr) (ys : List V), V.ref a = .ref b ∧ SqL K H b ys ∧ Q b ys := ⟨a, xs, rfl, h, q⟩
theorem g_eqS {x y : Str} (q : Q (.bl (decide (x = y))) H) : rEq (.str x) (.str y) H Q := ⟨rfl, by
  have e : decide (V.str x = V.str y) = decide (x = y) := by simp
  rw [e]; exact q⟩
end
end Fl

set_option Elab.async false
set_option linter.all false
set_option maxRecDepth 100000
set_option maxHeartbeats 4000000
/-! proper outlines -/
namespace Fl
open PySem PySem.Spec PyProof.Rows L2
def cnt (o : List (List Pt)) : Int := (o.map fun c => (c.length : Int)).sum
def okP (p : Pt) : Bool := decide (-16384 ≤ p.1 ∧ p.1 ≤ 16384 ∧ -16384 ≤ p.2.1 ∧ p.2.1 ≤ 16384)
def okC (c : List Pt) : Bool := decide (2 ≤ c.length) && c.all okP
def prp (o : List (List Pt)) : Bool := (decide (o.length ≤ 40) && decide (cnt o ≤ 200)) && o.all okC
def fCt (ds : List PyData) (d : PyData) : Prop := ∃ o : List (List Pt), ds = [ouD o] ∧ o.length ≤ 100 ∧ d = .int (cnt o)
def fPr (ds : List PyData) (d : PyData) : Prop := ∃ o : List (List Pt), ds = [ouD o] ∧ o.length ≤ 100 ∧ (∀ c, c ∈ o → c.length ≤ 900) ∧ d = .bool (prp o)
theorem cnt_flat (o : List (List Pt)) : cnt o = (o.flatten.length : Int) := by
  unfold cnt
  induction o with
  | nil => rfl
  | cons c o ih =>
    rw [List.map_cons, List.sum_cons, ih, List.flatten_cons, List.length_append]
    omega
theorem prp_many {o : List (List Pt)} (h : ¬ ((o.length : Int) ≤ 40)) : prp o = false := by
  unfold prp
  rw [decide_eq_false (by omega), Bool.false_and, Bool.false_and]
theorem prp_cnt {o : List (List Pt)} (h : ¬ (cnt o ≤ 200)) : prp o = false := by
  unfold prp
  rw [decide_eq_false h, Bool.and_false, Bool.false_and]
theorem prp_c {o : List (List Pt)} {c : List Pt} (m : c ∈ o) (h : okC c = false) : prp o = false := by
  unfold prp
  have : o.all okC = false := by
    rw [List.all_eq_false]
    exact ⟨c, m, by rw [h]; exact Bool.false_ne_true⟩
  rw [this, Bool.and_false]
theorem prp_true {o : List (List Pt)} (h1 : (o.length : Int) ≤ 40) (h2 : cnt o ≤ 200) (h3 : ∀ c, c ∈ o → okC c = true) : prp o = true := by
  unfold prp
  rw [decide_eq_true (by omega), decide_eq_true h2, List.all_eq_true.mpr h3]
  rfl
theorem okC_few {c : List Pt} (h : (c.length : Int) < 2) : okC c = false := by
  unfold okC
  rw [decide_eq_false (by omega), Bool.false_and]
theorem okC_p {c : List Pt} {p : Pt} (m : p ∈ c) (h : okP p = false) : okC c = false := by
  unfold okC
  have : c.all okP = false := by
    rw [List.all_eq_false]
    exact ⟨p, m, by rw [h]; exact Bool.false_ne_true⟩
  rw [this, Bool.and_false]
theorem okC_true {c : List Pt} (h1 : ¬ (c.length : Int) < 2) (h3 : ∀ p, p ∈ c → okP p = true) : okC c = true := by
  unfold okC
  rw [decide_eq_true (by omega), List.all_eq_true.mpr h3]
  rfl
theorem okP_f {p : Pt} (h : ¬ (-16384 ≤ p.1 ∧ p.1 ≤ 16384 ∧ -16384 ≤ p.2.1 ∧ p.2.1 ≤ 16384)) : okP p = false := decide_eq_false h
theorem okP_t {p : Pt} (h : -16384 ≤ p.1 ∧ p.1 ≤ 16384 ∧ -16384 ≤ p.2.1 ∧ p.2.1 ≤ 16384) : okP p = true := decide_eq_true h
theorem take_mem {α : Type} {l : List α} {P : α → Prop} {i : Nat} {x : α} (hx : l[i]? = some x) (h : ∀ y, y ∈ l.take i → P y) (k : P x) : ∀ y, y ∈ l.take (i + 1) → P y := by
  intro y m
  rw [List.take_succ, hx] at m
  rcases List.mem_append.mp m with m | m
  · exact h y m
  · rw [show y = x by simpa using m]
    exact k
/-- a changed outline -/
structure ChIn (o : List (List Pt)) : Prop where
  len : o.length ≤ 45
  cs : ∀ c, c ∈ o → c.length ≤ 300 ∧ ∀ p, p ∈ c → PtIn (10 ^ 6) p
  fl : o.flatten.length ≤ 400
def spCh : Sp := fun vs H Q _ => ∃ (d s : Addr) (ns : List Int) (a : V) (o : List (List Pt)), vs = [.ref d, a] ∧ Dk d s ns H ∧ Dq [d] H a (ouD o) ∧ OuIn 2 400 o ∧
  ∀ t H' o', Dk d s ns H' → Dq [d] H' t (ouD o') → ChIn o' → Q t H'
theorem flat_len {n : Nat} : ∀ {o : List (List Pt)}, (∀ c, c ∈ o → c.length ≤ n) → o.flatten.length ≤ n * o.length
  | [], _ => Nat.zero_le _
  | c :: o, h => by
    have h1 := h c (by simp)
    have h2 := flat_len (o := o) fun x m => h x (List.mem_cons_of_mem _ m)
    rw [List.flatten_cons, List.length_append, List.length_cons, Nat.mul_succ]
    omega
theorem OuIn.ch {o : List (List Pt)} (h : OuIn 2 400 o) : ChIn o := by
  have h1 := h.len
  refine ⟨by omega, fun c m => ?_, ?_⟩
  · obtain ⟨g1, g2, g3⟩ := h.cs c m
    refine ⟨by omega, fun p mp => ?_⟩
    obtain ⟨g1, g2, g3, g4⟩ := g3 p mp
    exact ⟨by omega, by omega, by omega, by omega⟩
  · have := flat_len (n := 7) fun c m => (h.cs c m).2.1
    omega
theorem ChIn.app {o u : List (List Pt)} (h : OuIn 2 400 o) (h1 : u.length ≤ 42) (h2 : ∀ c, c ∈ u → c.length ≤ 300 ∧ ∀ p, p ∈ c → PtIn (10 ^ 6) p) (h3 : u.flatten.length ≤ 300) : ChIn (o ++ u) := by
  obtain ⟨a, b, c⟩ := h.ch
  have h0 := h.len
  have := flat_len (n := 7) fun c m => (h.cs c m).2.1
  refine ⟨by rw [List.length_append]; omega, fun c m => ?_, by rw [List.flatten_append, List.length_append]; omega⟩
  rcases List.mem_append.mp m with m | m
  · exact b c m
  · exact h2 c m
theorem ChIn.pre {o : List (List Pt)} (h : OuIn 2 400 o) : ChIn ([] :: o) := by
  obtain ⟨a, b, c⟩ := h.ch
  have h0 := h.len
  refine ⟨by rw [List.length_cons]; omega, fun c m => ?_, by simpa using c⟩
  rcases List.mem_cons.mp m with rfl | m
  · exact ⟨by simp, fun _ m => nomatch m⟩
  · exact b c m
theorem PtIn.big {p : Pt} (h : PtIn 400 p) : PtIn (10 ^ 6) p := by
  obtain ⟨g1, g2, g3, g4⟩ := h
  exact ⟨by omega, by omega, by omega, by omega⟩
/-- same(x, y), of data at a depth of up to one -/
def spSm12 : Sp := fun vs H Q E => spSm1 vs H Q E ∨ spSm2 vs H Q E
theorem sh_tu {ds : List PyData} {n : Nat} (h : ∀ d, d ∈ ds → d.canLay0 = true ∧ d.depth ≤ n) (hn : n < 63) : (PyData.list ds).canLay0 = true ∧ (PyData.list ds).depth ≤ n + 1 := by
  have h1 := canLay_all (fun d => d.canLay0 = true) (fun _ h => h) ds (fun d m => (h d m).1)
  have h2 := depth_all n ds (fun d m => (h d m).2)
  refine ⟨by simp [PyData.canLay0, h1], ?_⟩
  simp only [PyData.depth]
  omega
theorem pt_lay (p : Pt) : (ptD p).canLay0 = true ∧ (ptD p).depth ≤ 1 := by
  unfold ptD
  simp [PyData.canLay0, PyData.canLayAll0, PyData.depth, PyData.depthAll]
theorem sh_ct (c : List Pt) : SeqAt.shaped (ctD c) = true := sh_list (n := 1) (fun d m => by
  obtain ⟨p, _, rfl⟩ := List.mem_map.mp m
  exact pt_lay p) (by decide)
theorem sh_nilL : SeqAt.shaped (.list []) = true := sh_list (n := 0) (fun d m => nomatch m) (by decide)
/-- a list of data is the empty list just if it has no item -/
theorem eqv_nil (ds : List PyData) : PyData.eqv (.list ds) (.list []) = ds.isEmpty := by
  cases ds with
  | nil => exact eqv_self sh_nilL
  | cons d ds => rfl
end Fl
namespace Fl
open PySem PySem.Spec PyProof.Rows L2
theorem fm_getD {β : Type} (f : Pt → Option β) : ∀ c : List Pt, (List.range c.length).filterMap (fun j => f (c.getD j p0)) = c.filterMap f
  | [] => rfl
  | p :: c => by
    rw [List.length_cons, List.range_succ_eq_map, List.filterMap_cons, List.filterMap_cons, List.filterMap_map]
    have ih := fm_getD f c
    have e : (List.range c.length).filterMap ((fun j => f ((p :: c).getD j p0)) ∘ Nat.succ) = c.filterMap f := ih
    rw [e]
    rfl
def bad (c : List Pt) : List PyData := c.filterMap fun p => if okP p = true then none else some (ptD p)
theorem bad_fm (c : List Pt) : (List.range c.length).filterMap (fun j => if okP (c.getD j p0) = true then none else some (ptD (c.getD j p0))) = bad c := fm_getD (fun p => if okP p = true then none else some (ptD p)) c
theorem bad_sh (c : List Pt) : SeqAt.shaped (.list (bad c)) = true := sh_list (n := 1) (fun d m => by
  obtain ⟨p, _, h⟩ := List.mem_filterMap.mp m
  split at h
  · cases h
  · cases h
    exact pt_lay p) (by decide)
theorem bad_nil {c : List Pt} (h : (bad c).isEmpty = true) : ∀ p, p ∈ c → okP p = true := by
  intro p m
  cases hp : okP p with
  | true => rfl
  | false =>
    have : ptD p ∈ bad c := List.mem_filterMap.mpr ⟨p, m, by rw [hp]; rfl⟩
    rw [List.isEmpty_iff.mp h] at this
    cases this
theorem bad_one {c : List Pt} (h : (bad c).isEmpty = false) : okC c = false := by
  cases hb : bad c with
  | nil => rw [hb] at h; cases h
  | cons d ds =>
    have m : d ∈ bad c := by rw [hb]; simp
    obtain ⟨p, mp, e⟩ := List.mem_filterMap.mp m
    split at e
    · cases e
    · rename_i hk
      exact okC_p mp (by simpa using hk)
theorem g_iteNB {b : Bool} {A B : Prop} (h1 : b = false → A) (h2 : b = true → B) : if (!b) = true then A else B := by
  cases b with
  | true => rw [if_neg (by decide)]; exact h2 rfl
  | false => rw [if_pos (by decide)]; exact h1 rfl
end Fl
namespace Fl
open PySem PySem.Spec PyProof.Rows L2
theorem cat_ou {S : List Addr} {H : Hp} {xs ys : List V} {o u : List (List Pt)} (h : DqA S H xs (o.map ctD)) (k : DqA S H ys (u.map ctD)) : DqA S H (xs ++ ys) ((o ++ u).map ctD) := by
  rw [List.map_append]
  exact h.app k
theorem rep_fm {α β : Type} (x : β) : ∀ l : List α, l.filterMap (fun _ => some x) = List.replicate l.length x
  | [] => rfl
  | _ :: l => by
    rw [List.filterMap_cons, rep_fm x l]
    rfl
theorem far_at {v : Int} (h0 : 0 ≤ v) (h1 : v < 4) : ∃ f : Int, atI [V.int 16384, V.int (-16384), V.int 16385, V.int (-16385)] v = some (.int f) ∧ -16385 ≤ f ∧ f ≤ 16385 := by
  rcases (by omega : v = 0 ∨ v = 1 ∨ v = 2 ∨ v = 3) with rfl | rfl | rfl | rfl
  · exact ⟨_, rfl, by decide, by decide⟩
  · exact ⟨_, rfl, by decide, by decide⟩
  · exact ⟨_, rfl, by decide, by decide⟩
  · exact ⟨_, rfl, by decide, by decide⟩
theorem flat_rep {α : Type} (x : List α) : ∀ n : Nat, (List.replicate n x).flatten.length = n * x.length
  | 0 => by simp
  | n + 1 => by rw [List.replicate_succ, List.flatten_cons, List.length_append, flat_rep x n, Nat.succ_mul, Nat.add_comm]
end Fl

set_option Elab.async false
set_option linter.all false
set_option maxRecDepth 100000
set_option maxHeartbeats 4000000
/-! the line of a contour by its ring and its start -/
namespace Fl
open PySem PySem.Spec PyProof.Rows L2
def wk (c : List Pt) (i : Nat) : List Pt := ((c.zip (beg c 1)).take i).flatMap fun z => w1 z.1 z.2
theorem wk_all (c : List Pt) : wk c c.length = wm c := by
  unfold wk
  rw [List.take_of_length_le (by rw [List.length_zip, beg_len]; omega)]
  exact wz_wm c
theorem wk_succ {c : List Pt} {i : Nat} {p q : Pt} (hp : c[i]? = some p) (hq : (beg c 1)[i]? = some q) : wk c (i + 1) = wk c i ++ w1 p q := by
  unfold wk
  rw [take_zip hp hq, List.flatMap_append]
  simp
theorem wk_len {c : List Pt} : ∀ i : Nat, (wk c i).length ≤ 2 * i
  | 0 => Nat.le_refl _
  | i + 1 => by
    have ih := wk_len (c := c) i
    rcases Nat.lt_or_ge i c.length with h | h
    · obtain ⟨p, hp⟩ : ∃ p, c[i]? = some p := ⟨_, List.getElem?_eq_getElem h⟩
      obtain ⟨q, hq⟩ : ∃ q, (beg c 1)[i]? = some q := ⟨_, List.getElem?_eq_getElem (by rw [beg_len]; exact h)⟩
      rw [wk_succ hp hq, List.length_append]
      have := (w1_len p q).2
      omega
    · have e : wk c (i + 1) = wk c i := by
        unfold wk
        rw [List.take_of_length_le (by rw [List.length_zip, beg_len]; omega), List.take_of_length_le (by rw [List.length_zip, beg_len]; omega)]
      rw [e]
      omega
def stOf (c : List Pt) : Int := match ps c with
  | [] => ((wm c).length : Int) - 1
  | k :: _ => ((wk c k).length : Int)
theorem wk_wp {u : List Pt} {p : Pt} {v : List Pt} : wk (u ++ p :: v) u.length = wp u p := by
  cases u with
  | nil => rfl
  | cons x u =>
    have e : (x :: u ++ p :: v).zip (beg (x :: u ++ p :: v) 1) = (x :: u).zip (u ++ [p]) ++ (p :: v).zip (v ++ [x]) := by
      have e2 : beg (x :: u ++ p :: v) 1 = (u ++ [p]) ++ (v ++ [x]) := by
        unfold beg
        simp
      rw [e2]
      exact List.zip_append (by simp)
    unfold wk
    rw [e, List.take_append_of_le_length (by simp), List.take_of_length_le (by simp)]
    exact wz_wp u x p
theorem beg_ro {c : List Pt} (n : c ≠ []) : ∃ k : Nat, stOf c = (k : Int) ∧ k ≤ (wm c).length ∧ beg (wm c) k = ro c := by
  have hl := (wm_len c).1
  have hc : 0 < c.length := List.length_pos_iff.mpr n
  unfold stOf ro
  cases hp : ps c with
  | nil =>
    refine ⟨(wm c).length - 1, by show ((wm c).length : Int) - 1 = _; omega, by omega, ?_⟩
    unfold beg
    rw [List.dropLast_eq_take]
  | cons k l =>
    have hk : k < c.length := ps_lt (by rw [hp]; simp)
    obtain ⟨u, p, v, rfl, rfl⟩ : ∃ (u : List Pt) (p : Pt) (v : List Pt), c = u ++ p :: v ∧ k = u.length := by
      refine ⟨c.take k, c[k], c.drop (k + 1), ?_, ?_⟩
      · rw [List.getElem_cons_drop, List.take_append_drop]
      · rw [List.length_take]; omega
    refine ⟨(wk (u ++ p :: v) u.length).length, rfl, ?_, ?_⟩
    · rw [wk_wp]
      cases u with
      | nil => exact Nat.zero_le _
      | cons x u =>
        have e1 : wm (x :: u ++ p :: v) = wp (x :: u) p ++ wp (p :: v) x := wp_app (x :: u) p v x
        rw [e1, List.length_append]
        omega
    · show beg (wm (u ++ p :: v)) (wk (u ++ p :: v) u.length).length = wm (beg (u ++ p :: v) u.length)
      rw [wk_wp]
      have e0 : beg (u ++ p :: v) u.length = p :: v ++ u := by
        unfold beg
        simp
      rw [e0]
      cases u with
      | nil =>
        unfold beg
        simp [wp]
      | cons x u =>
        have e1 : wm (x :: u ++ p :: v) = wp (x :: u) p ++ wp (p :: v) x := wp_app (x :: u) p v x
        have e2 : wm (p :: v ++ x :: u) = wp (p :: v) x ++ wp (x :: u) p := wp_app (p :: v) x u p
        rw [e1, e2]
        unfold beg
        simp
theorem na_get : ∀ {l : List Pt} {i : Nat} {p q : Pt}, Na l → l[i]? = some p → l[i + 1]? = some q → p.2.2 = true ∨ q.2.2 = true
  | [], _, _, _, _, h, _ => by simp at h
  | [x], i, p, q, _, _, h => by simp at h
  | x :: y :: l, 0, p, q, na, h, k => by
    simp at h k
    subst h k
    exact na.1
  | x :: y :: l, i + 1, p, q, na, h, k => na_get (l := y :: l) (i := i) na.2 (by simpa using h) (by simpa using k)
def fRi (ds : List PyData) (d : PyData) : Prop := ∃ c : List Pt, ds = [ctD c] ∧ c.length ≤ 100 ∧ d = ctD (wm c)
def fSt (ds : List PyData) (d : PyData) : Prop := ∃ c : List Pt, ds = [ctD c] ∧ c.length ≤ 100 ∧ d = .int (stOf c)
theorem stOf_first {c : List Pt} {k : Nat} {p : Pt} (hk : c[k]? = some p) (on : p.2.2 = true) (off : ∀ x, x ∈ c.take k → x.2.2 = false) : stOf c = ((wk c k).length : Int) := by
  have hkl := (List.getElem?_eq_some_iff.mp hk).1
  have e : ∃ l, ps c = k :: l := by
    unfold ps
    have h1 : List.range c.length = List.range k ++ (List.range (c.length - k)).map (k + ·) := by
      rw [← List.range_add]
      congr 1
      omega
    rw [h1, List.filter_append]
    have h2 : (List.range k).filter (fun i => (c.getD i p0).2.2) = [] := by
      rw [List.filter_eq_nil_iff]
      intro i hi
      have hi := List.mem_range.mp hi
      obtain ⟨x, hx⟩ : ∃ x, c[i]? = some x := ⟨_, List.getElem?_eq_getElem (by omega)⟩
      rw [getD_of hx, off x (List.mem_of_getElem? (i := i) (by rw [List.getElem?_take]; simp [hi, hx]))]
      decide
    rw [h2, List.nil_append]
    obtain ⟨n, hn⟩ : ∃ n, c.length - k = n + 1 := ⟨c.length - k - 1, by omega⟩
    rw [hn, List.range_succ_eq_map, List.map_cons, List.filter_cons]
    have : (c.getD (k + 0) p0).2.2 = true := by
      rw [Nat.add_zero, getD_of hk]
      exact on
    rw [if_pos this]
    exact ⟨_, rfl⟩
  obtain ⟨l, e⟩ := e
  unfold stOf
  rw [e]
theorem stOf_none {c : List Pt} (off : ∀ x, x ∈ c → x.2.2 = false) : stOf c = ((wm c).length : Int) - 1 := by
  have e : ps c = [] := by
    unfold ps
    rw [List.filter_eq_nil_iff]
    intro i hi
    have hi := List.mem_range.mp hi
    obtain ⟨x, hx⟩ : ∃ x, c[i]? = some x := ⟨_, List.getElem?_eq_getElem hi⟩
    rw [getD_of hx, off x (List.mem_of_getElem? hx)]
    decide
  unfold stOf
  rw [e]
end Fl

set_option Elab.async false
set_option linter.all false
set_option maxRecDepth 100000
set_option maxHeartbeats 4000000
set_option exponentiation.threshold 20000
/-! own errors: B.__init__(self, ..) of an own base; X() without fields; isinstance of a caught one -/
namespace Fl
open PySem PySem.Spec PyProof.Rows L2
/-- what the written part says of an own base class whose __init__ is ValueError's -/
structure BaseC (K : PySem.W.Frag) (C : Addr) : Prop where
  sg : PySem.W.specialIn K (.ref C) "__getattribute__" = some (some (.builtin "type.__getattribute__"))
  ty : PySem.W.typeIn K (.ref C) = some (.type "type")
  rd : PySem.W.readsIn K C (.type "type") = true
  fc : PySem.W.findCls K (.ref C) (.type "type") "__init__" = some (.val (.builtin "ValueError.__init__"))
section
variable {X : Cx} {o e : Expr} {es : List Expr} {te : TE} {ta : TA} {x : Str} {C : Addr} {p p' p1 p2 pos : Pos}
theorem pe_binit {pl : Sem Bool} (hg : Gl X x) (hm : X.mg x = some (.ref C)) (B : BaseC X.K C) (ha : PA X (e :: es) ta) (hdb : (x == ("__debug__" : Str)) = false := by decide)
    (hc : eval (.Call (.Attribute (.Name x p1) "__init__" p2) (e :: es) [] pos) X.env = (do
      let ov ← eval (.Name x p1) X.env
      standAt p2.atName
      let (f, first) ← holding [ov] (getMethod ov "__init__" pl)
      callWith pos f first (backTo pos (starEach (e :: es) X.env)) (backToKw pos (keywordEach [] X.env))) := by rfl)
    (he : starEach (e :: es) X.env = (false, eval e X.env) :: starEach es X.env := by rfl) (hpl : (backTo pos (starEach es X.env)).any (·.1) = false := by rfl) :
    PE X (.Call (.Attribute (.Name x p1) "__init__" p2) (e :: es) [] pos) (tVeI X.K ta) := by
  refine ⟨fun pins s σ H Q I h => PySem.W.methodCall_KW (ld_glob I hg hm ?_ hdb) hc⟩
  obtain ⟨m, fr⟩ := I.fr
  refine PySem.W.method_of_cls fr I.ok.mod.kin B.sg (PySem.W.cls_val fr I.ok.mod.kin B.ty B.rd B.fc (by decide +kernel) ?_)
  refine PyProof.Rows.callWith_method1 (thn (ha.run pos pins _ σ H _ (I.tok _) h) fun us s1 ⟨vs, H1, I1, r1, a, C, ws, ev, hl, T, ea, q⟩ => ?_) he hpl
  subst ev
  cases r1 with
  | cons ra rw' =>
    cases ra
    exact oinit_ok T I1 ea (by rw [← Paired.length rw', sizeLine_eq]; omega) fun s' J => ⟨.non, H1, J, rfl, q⟩
end
section
variable {X : Cx}
/-- an error without fields, made: let go -/
theorem mk_nod {pins : List (Addr × Obj)} {σ : L2.St} {H1 H2 : Hp} {hp hp2 h2 : Heap} {g1 g2 : Array GenState} {d1 d2 : Drawn} {t1 t2 : Nat} {os1 os2 : OsState} {a C : Addr} (I1 : Inv X pins σ H1 ⟨hp, g1, d1, t1, os1⟩)
    (ha : hp.objs.size ≤ a) (k : ∀ b o, hp.get? b = some o → hp2.get? b = some o) (un : Un (frs X.stack) [] (upd H1 a (exo a C none)) H2 hp2 h2) (hok : HOk X.prog X.w H2 h2) (ho : os2 = os1) (hb : AllBare g2) (ea : H2 a = some (exo a C none)) :
    ∃ (t0 : Addr) (G : Heap), Inv X pins σ (del H2 a) ⟨G, g2, d2, t2, os2⟩ ∧ (∀ b o, G.get? b = some o → h2.get? b = some o) ∧ G.get? a = none ∧
      h2.get? a = some ({ cls := .ref C, dict := none, data := .fields #[.ref t0, .none, .none, .none, .bool false, .none] } : Obj) := by
  obtain ⟨t0, hoe⟩ := exo_at hok ea
  have hn : H1 a = none := I1.hok.fresh ha
  obtain ⟨G, gk', ge'⟩ := restrict h2 fun b => decide (b ≠ a)
  have gk : ∀ b, b ≠ a → G.get? b = h2.get? b := fun b n => gk' b (decide_eq_true n)
  have ge : G.get? a = none := ge' a (by simp)
  have old : ∀ {b : Addr} {u : Obj}, hp.get? b = some u → b ≠ a := fun z => Nat.ne_of_lt (Nat.lt_of_lt_of_le (Heap.lt_size z) ha)
  have none1 : ∀ {b : Addr}, b ≠ a → H1 b = none → upd H1 a (exo a C none) b = none := fun n z => (upd_ne n).trans z
  have some1 : ∀ {b : Addr} {u : HO}, H1 b = some u → upd H1 a (exo a C none) b = some u := fun z => (upd_ne (ne_of_none z hn)).trans z
  have U : Un (frs X.stack) [] H1 (del H2 a) hp G :=
    { keep := fun b u z n hf hx => (gk b (old z)).trans (un.keep b u (k b u z) (none1 (old z) n) hf hx)
      slot := fun b u z n hf hx => by rw [gk b (old z)]; exact un.slot b u (k b u z) (none1 (old z) n) hf hx
      free := fun b u z n hx => (del_ne (old z)).trans (un.free b u (k b u z) (none1 (old z) n) hx)
      there := fun b u z hx => by rw [gk b (old z)]; exact un.there b u (k b u z) hx
      tups := fun b xs z => (del_ne (ne_of_none z hn)).trans (un.tups b xs (some1 z))
      frzs := fun b u v z => (del_ne (ne_of_none z hn)).trans (un.frzs b u v (some1 z))
      tbls := fun b ps z => by rw [del_ne (ne_of_none z hn)]; exact un.tbls b ps (some1 z) }
  have hok3 : HOk X.prog X.w (del H2 a) G := fun b u z => by
    have n : b ≠ a := fun e => by rw [e, del_same] at z; cases z
    rw [del_ne n] at z
    have away : ∀ {c : Addr}, H2 c = some (.own b) → c ≠ a := fun hc => at_ne ea hc exo_own
    refine (hok b u z).stay (fun c v hc y => (gk c ?_).trans y) (fun c hc => (del_ne (away hc)).trans hc) (fun c xs hc => (del_ne (at_ne ea hc exo_tup)).trans hc)
    rcases hc with hc | hc
    · rw [hc]; exact n
    · exact away hc
  refine ⟨t0, G, I1.call' (ch := []) ho U hok3 hb (fun b z => absurd z (by simp)), fun b u z => ?_, ge, hoe⟩
  rcases Decidable.em (b = a) with e | e
  · rw [e, ge] at z; cases z
  · exact (gk b e).symm.trans z
/-- X(), X's __init__ keeping sp -/
def tMkN (C : Addr) (sp : Sp) : L2.St → Hp → XK → Prop := fun _ H Q => ∀ a, H a = none → sp [.ref a] (upd H a (exo a C none)) (fun v H2 => v = .non ∧ H2 a = some (exo a C none) ∧ Q (.ref C) none (del H2 a)) (fun _ _ _ => False)
theorem pmk_nod {CX : CXT} {x : Str} {C fI : Addr} {k : Nat} {fd : FuncData} {ps : List Str} {sp : Sp} {p pos : Pos} (T : OexC X.K C) (iC : PySem.W.findIn X.K (.ref C) "__init__" = some (some (.ref fI))) (tI : PySem.W.typeIn X.K (.ref fI) = some (.type "function"))
    (F1 : FnOk X.prog X.w X.K X.mg X.base CX k fI fd ps sp) (hr : Room (k + 1) X.A) (hb : Binds X.K fd ps []) (hx : Passes CX X (fun _ _ _ => False)) (hg : Gl X x) (hm : X.mg x = some (.ref C)) (hdb : (x == ("__debug__" : Str)) = false := by decide) :
    PMk X (.Call (.Name x p) [] [] pos) (tMkN C sp) := by
  intro pins s σ H Q I h
  obtain ⟨nm, q, N, bs, bm, sn, sub, ab, col, dd, k0, k1, k2, k3, k5, hC, hbm⟩ := T.cls
  refine wpAny_Call_Name_kw (ld_glob I hg hm (PySem.W.callWith_K0 I.kIn T.kC ?_) hdb)
  show wpAny _ _ (call (.ref C) []) _ _ _
  obtain ⟨hp, g, dr, tk, os⟩ := s
  have hsz : hp.objs.size ≤ hp.objs.size + 1 := Nat.le_succ _
  have hn : H (hp.objs.size + 1) = none := I.hok.fresh hsz
  have hq := h (hp.objs.size + 1) hn
  have kk : ∀ b o, hp.get? b = some o → ((hp.push (PySem.W.kdv_tup [])).push (PySem.HandSPX.excO C hp.objs.size)).get? b = some o := fun b o e => Heap.get?_push_of_some _ (Heap.get?_push_of_some _ e)
  have here : ((hp.push (PySem.W.kdv_tup [])).push (PySem.HandSPX.excO C hp.objs.size)).get? (hp.objs.size + 1) = some (PySem.HandSPX.excO C hp.objs.size) := by heap_get
  have I2 : Inv X pins σ (upd H (hp.objs.size + 1) (exo (hp.objs.size + 1) C none)) ⟨(hp.push (PySem.W.kdv_tup [])).push (PySem.HandSPX.excO C hp.objs.size), g, dr, tk, os⟩ := I.laid (t' := tk) kk hsz (exo_ok here)
  have r2 : Vals [V.ref (hp.objs.size + 1)] [Value.ref (hp.objs.size + 1)] := .cons rfl .nil
  have hl : ([Value.ref (hp.objs.size + 1)] ++ ([] : List Value)).length = ps.length := (F1.len _ _ _ _ hq)
  refine wpAny_call (PySem.HandSPX.call_own F.excBase_ValueError (fun Y => PySem.HandSPX.refsVE_contains Y bm hbm) (I.kIn _ _ hC) (PySem.W.looks_findIn I.kIn iC) (fun self => PySem.W.bind_fn I.kIn self tI) (Nat.zero_le _)
    (codeAny_mono (F1.run _ X.stack _ _ ⟨[Value.ref (hp.objs.size + 1)], []⟩ [Value.ref (hp.objs.size + 1)] _ _ (fun _ _ _ => False) (hr.make C [] []) (I2.env0.make C [] []) (hb _ _ I2.kIn hl) r2 hq) fun r s' hq' => ?_))
  match r, hq' with
  | .error er, hq' => exact hx pins σ _ _ er s' I2 hq'
  | .ok (.ret u), ⟨v, H2, os2, bare2, un2, hok2, rv, ev, ea, q2⟩ =>
    subst ev
    obtain ⟨h2, g2, d2, t2, os'⟩ := s'
    obtain ⟨t0, G, J, kG, ge, hoe⟩ := mk_nod (d2 := d2) (t2 := t2) I hsz kk un2 hok2 os2 bare2 ea
    exact ⟨rv, _, _, _, ⟨G, g2, d2, t2, os'⟩, _, .ref C, none, rfl, J, kG, ge, hoe, ⟨rfl, rfl⟩, rfl, rfl, del_same, rfl, bare2, raises_own T.exC T.tyC, q2⟩
/-- isinstance(e, c), e the error that the suite holds, without fields -/
def rIsN (K : PySem.W.Frag) (cls : Value) (d : Option Addr) (a : Addr) : List V → Hp → VK → Prop := fun xs H Q => ∃ D, cls = .ref D ∧ d = none ∧ ExcC K D ∧ rIsE K D a xs H Q
theorem call_isN {a : Addr} {cls : Value} {d : Option Addr} {oe : Obj} {K : PySem.W.Frag} (eK : X.K = K) (hp : (a, oe) ∈ X.pn) (hz : Zc cls d oe) (hf : ∃ vs, oe.data = .fields vs) : CallR X (.builtin "isinstance") (rIsN K cls d a) := by
  subst eK
  intro pins s σ H xs us Q I r ⟨D, e1, e2, C, c, cv, b, e3, hcv, e, q⟩
  subst e1 e2 e3
  obtain ⟨u1, u2, rfl, r1, r2⟩ := vals2 r
  cases r1
  obtain rfl := hcv _ r2
  obtain ⟨vs, hv⟩ := hf
  have J : PySem.W.InstAt s.heap a oe D none := by
    obtain ⟨h1, h2⟩ := hz
    refine ⟨(I.pin (a, oe) (List.mem_append_left _ hp)).1, h1, ?_, ?_⟩
    · unfold PySem.W.notCls
      rw [hv]
    · rw [h2]
      trivial
  exact PySem.W.kia_one (PySem.W.handS_kitx_exc C.hg C.hk C.hs C.hd C.ha C.hn C.ht C.hm) I.kIn J e (fun z => nomatch z) fun tk => ⟨.bl b, H, I.kept (t' := tk) fun _ _ z => z, rfl, q⟩
end
end Fl
namespace Fl
open PySem PySem.Spec PyProof.Rows L2
/-- where a name of the module's top stands -/
def adr (mg : Str → Option Value) (x : Str) : Addr := match mg x with | some (.ref a) => a | _ => 0
theorem adr_of {mg : Str → Option Value} {x : Str} {a : Addr} (h : mg x = some (.ref a)) : adr mg x = a := by unfold adr; rw [h]
/-- an own error class without fields -/
structure ClsN (K : PySem.W.Frag) (mg : Str → Option Value) (x qual : Str) (st : Stmt) : Prop where
  g : mg x = some (.ref (adr mg x))
  o : OexC K (adr mg x)
  c : ExcC K (adr mg x)
  i : ∃ (fI : Addr) (fd : FuncData), PySem.W.findIn K (.ref (adr mg x)) "__init__" = some (some (.ref fI)) ∧ PySem.W.typeIn K (.ref fI) = some (.type "function") ∧ Fun K "__init__" qual st fI fd
def spIniN (K : PySem.W.Frag) (C : Addr) : Sp := fun vs H Q _ => ∃ a : Addr, vs = [.ref a] ∧ H a = some (exo a C none) ∧ Q .non H
structure MkX (P : Program) (w : World) (K : PySem.W.Frag) (mg : Str → Option Value) (base : Heap) (k : Nat) (x : Str) : Prop where
  g : mg x = some (.ref (adr mg x))
  o : OexC K (adr mg x)
  i : ∃ (fI : Addr) (fd : FuncData), PySem.W.findIn K (.ref (adr mg x)) "__init__" = some (some (.ref fI)) ∧ PySem.W.typeIn K (.ref fI) = some (.type "function") ∧ FnOk P w K mg base L2.CX0 k fI fd ["self"] (spIniN K (adr mg x)) ∧ L2.Binds K fd ["self"] []
def tRaiseN (W : WX) (C : Addr) : TS := fun _ σ H => W (.ref C) none σ H
theorem del_upd {H : Hp} {a : Addr} {u : HO} (h : H a = none) : del (upd H a u) a = H := by
  funext b
  by_cases e : b = a
  · rw [e, del_same, h]
  · rw [del_ne e, upd_ne e]
theorem ps_raiseN {X : Cx} {W : WX} {k : Nat} {x : Str} {p pos pos2 : Pos} (M : MkX X.prog X.w X.K X.mg X.base k x) (hc : X.calm = true) (hr : Room (k + 1) X.A) (tk : Takes X W) (hg : Gl X x := by rfl) (hdb : (x == ("__debug__" : Str)) = false := by decide) :
    PS X (.Raise (some (.Call (.Name x p) [] [] pos)) none pos2) (tRaiseN W (adr X.mg x)) := by
  obtain ⟨fI, fd, iC, tI, F, b⟩ := M.i
  refine ⟨fun pins s σ H D I h => (ps_raise hc tk (pmk_nod (CX := L2.CX0) M.o iC tI F hr b (fun _ _ _ _ _ _ _ z => z.elim) hg M.g hdb)).run pins s σ H D I fun a ha => ⟨a, rfl, upd_same, rfl, upd_same, ?_⟩⟩
  rw [del_upd ha]
  exact h
/-- defs that may raise -/
structure HasX (P : Program) (w : World) (K : PySem.W.Frag) (mg : Str → Option Value) (base : Heap) (k : Nat) (x : Str) (ps : List Str) (sp : Sp) : Prop where
  ex : ∃ (f : Addr) (fd : FuncData), FnOk P w K mg base (L2.CX P w) k f fd ps sp ∧ mg x = some (.ref f) ∧ PySem.W.keepIn K (.ref f) = true ∧ L2.Binds K fd ps []
abbrev bxX (P : Program) (w : World) (K : PySem.W.Frag) (mg : Str → Option Value) (base : Heap) (N : List Str) (x : Str) (st : Stmt) (f : Addr) (cdv : Value) (A : Around) (outer : List Env) (s : Shared) (H : Hp) (E : XK) : Cx :=
  cxOf (L2.CX P w) P w K mg base N x (defScope st) f cdv A outer s H E
section
variable {P : Program} {w : World} {K : PySem.W.Frag} {mg : Str → Option Value} {base : Heap}
theorem hasX_of {x : Str} {st : Stmt} {N ps : List Str} {k : Nat} {sp : Sp} (D : DefIn K mg x st) (S : FnScope N ps (defScope st))
    (hb : ∀ (kV doc pm : Value) (an : Option Addr) (cdv ct : Value) (us : List Value), us.length = ps.length → bindArgs (PySem.W.fnOf x x (defArgs st) (defBody st) (defScope st) .none kV doc pm an cdv ct) ⟨us, []⟩ = pure (ps.zip us))
    (len : ∀ vs H Q E, sp vs H Q E → vs.length = ps.length)
    (hbody : ∀ (f : Addr) (cdv : Value) (A : Around) (outer : List Env) (s : Shared) (H : Hp) (vs : List V) (Q : VK) (E : XK), Room k (A.deeper (envOfC x (defScope st) s.heap.objs.size f cdv)) → sp vs H Q E →
      ∃ t, PSs (bxX P w K mg base N x st f cdv A outer s H E) (defBody st) t ∧ t { nx := fun _ H' => Q .non H', rt := Q } (start N vs) H) : HasX P w K mg base (k + 1) x ps sp := by
  obtain ⟨f, fd, F, m⟩ := D.ex
  exact ⟨f, fd, F.okX S len fun cdv A outer s H vs Q E hr h => hbody f cdv A outer s H vs Q E hr h, m, F.kp, F.binds hb⟩
/-- the same of a def with defaults, all values written -/
theorem hasXD_of {x : Str} {st : Stmt} {N ps : List Str} {k : Nat} {sp : Sp} {dvs : List V} (D : DefInD K mg x st dvs) (S : FnScope N ps (defScope st)) (hd : dvs ≠ [])
    (hb : ∀ (T : Addr) (kV doc pm : Value) (an : Option Addr) (cdv ct : Value) (us its : List Value), us.length = ps.length → its.length = dvs.length →
      ∃ k, bindArgs (PySem.W.fnOf x x (defArgs st) (defBody st) (defScope st) (.ref T) kV doc pm an cdv ct) ⟨us, []⟩ = seqItems? (.ref T) >>= k ∧ k (some its.toArray) = pure (ps.zip (us ++ its.drop dvs.length)))
    (len : ∀ vs H Q E, sp vs H Q E → vs.length = ps.length)
    (hbody : ∀ (f : Addr) (cdv : Value) (A : Around) (outer : List Env) (s : Shared) (H : Hp) (vs : List V) (Q : VK) (E : XK), Room k (A.deeper (envOfC x (defScope st) s.heap.objs.size f cdv)) → sp vs H Q E →
      ∃ t, PSs (bxX P w K mg base N x st f cdv A outer s H E) (defBody st) t ∧ t { nx := fun _ H' => Q .non H', rt := Q } (start N vs) H) : HasX P w K mg base (k + 1) x ps sp := by
  obtain ⟨f, fd, F, m⟩ := D.ex
  obtain ⟨ds, r, b⟩ := F.binds1 ps.length dvs.length hd (by rw [Nat.sub_self, Nat.add_zero]) hb
  rw [List.drop_length] at r
  cases r
  exact ⟨f, fd, F.ok S len fun cdv A outer s H vs Q E hr h => hbody f cdv A outer s H vs Q E hr h, m, F.kp, b⟩
theorem mkX_of {x qual : Str} {st : Stmt} {k : Nat} (C : ClsN K mg x qual st) (S : FnScope ["self"] ["self"] (defScope st))
    (hb : ∀ (kV doc pm : Value) (an : Option Addr) (cdv ct : Value) (us : List Value), us.length = 1 → bindArgs (PySem.W.fnOf "__init__" qual (defArgs st) (defBody st) (defScope st) .none kV doc pm an cdv ct) ⟨us, []⟩ = pure ((["self"] : List Str).zip us))
    (hbody : ∀ (f : Addr) (cdv : Value) (A : Around) (outer : List Env) (s : Shared) (H : Hp) (a : Addr) (Q : VK) (E : XK), Room k (A.deeper (envOfC qual (defScope st) s.heap.objs.size f cdv)) → H a = some (exo a (adr mg x) none) → Q .non H →
      ∃ t, PSs (cxOf L2.CX0 P w K mg base ["self"] qual (defScope st) f cdv A outer s H E).nox (defBody st) t ∧ t { nx := fun _ H' => Q .non H', rt := Q } (start ["self"] [.ref a]) H) : MkX P w K mg base (k + 1) x := by
  obtain ⟨fI, fd, iC, tI, F⟩ := C.i
  refine ⟨C.g, C.o, fI, fd, iC, tI, F.ok S (fun vs H Q E ⟨a, e, _⟩ => by rw [e]; rfl) fun cdv A outer s H vs Q E hr ⟨a, e, h, q⟩ => ?_, F.binds hb⟩
  subst e
  exact hbody fI cdv A outer s H a Q E hr h q
end
theorem pe_hX {X : Cx} {k : Nat} {x : Str} {ps : List Str} {sp : Sp} {W : WX} {e : Expr} {es : List Expr} {t : TA} {p pos : Pos} (h : HasX X.prog X.w X.K X.mg X.base k x ps sp) (hr : Room k X.A) (tk : Takes X W) (ha : PA X (e :: es) t) (hg : Gl X x := by rfl)
    (hdb : (x == ("__debug__" : Str)) = false := by decide) (he : starEach (e :: es) X.env = (false, eval e X.env) :: starEach es X.env := by rfl) (hpl : (backTo pos (starEach es X.env)).any (·.1) = false := by rfl) :
    PE X (.Call (.Name x p) (e :: es) [] pos) (tCallS sp (WE W) t) := by
  obtain ⟨f, fd, a, b, c, d⟩ := h.ex
  exact pe_callS a hr hg b c d (fun σ => passAt tk σ) ha hdb he hpl
theorem g_callS {sp : Sp} {E : L2.St → XK} {t : TA} {σ : L2.St} {H : Hp} {Q : VK} (h : t σ H fun vs H1 => sp vs H1 Q (E σ)) : tCallS sp E t σ H Q := h
theorem g_raiseN {W : WX} {C : Addr} {D : Ends} {σ : L2.St} {H : Hp} (h : W (.ref C) none σ H) : tRaiseN W C D σ H := h
theorem g_isN {K : PySem.W.Frag} {D a : Addr} {c : V} {cv : Value} {b : Bool} {H : Hp} {Q : VK} (C : ExcC K D) (hc : ∀ u, RelV c u → u = cv) (k : PySem.W.kitOne K (.ref D) cv = some b) (q : Q (.bl b) H) : rIsN K (.ref D) none a [.ref a, c] H Q := ⟨D, rfl, rfl, C, c, cv, b, rfl, hc, k, q⟩
theorem wAs_yes {K : PySem.W.Frag} {c cls : Value} {d : Option Addr} {i : Nat} {ts : Addr → Value → Option Addr → TS} {Wout : WX} {D : Ends} {σ : L2.St} {H : Hp} (h : PySem.W.exmOne K cls c = some true)
    (k : ∀ a, H a = none → ts a cls d { nx := fun σ' H' => D.nx (σ'.set i none) H', rt := D.rt, bk := fun σ' H' => D.bk (σ'.set i none) H', ct := fun σ' H' => D.ct (σ'.set i none) H' } (σ.set i (some (.ref a))) H) : wAs K c i ts Wout D cls d σ H :=
  ⟨true, h, fun _ => k, fun z => nomatch z⟩
theorem Has.imp {P : Program} {w : World} {K : PySem.W.Frag} {mg : Str → Option Value} {base : Heap} {k : Nat} {x : Str} {ps : List Str} {sp sp' : Sp} (h : Has P w K mg base k x ps sp) (i : ∀ vs H Q E, sp' vs H Q E → sp vs H Q E) : Has P w K mg base k x ps sp' := by
  obtain ⟨f, fd, a, b⟩ := h.ex
  exact ⟨f, fd, a.imp i, b⟩
end Fl
namespace Fl
open PySem PySem.Spec PyProof.Rows L2
theorem ratq_rat {K : PySem.W.Frag} {vs : List V} {H : Hp} {Q : VK} {E : XK} (h : spRatq K vs H Q E) : spRat vs H Q E := by
  obtain ⟨p, q, rfl, hq, h1, h2, k⟩ := h
  refine ⟨p, q, rfl, hq, Nat.lt_of_lt_of_le h1 (Nat.pow_le_pow_right (by decide) (by decide)), Nat.lt_of_lt_of_le h2 (Nat.pow_le_pow_right (by decide) (by decide)), fun t ht => k t _ ht (Fl.Same.new ht) ?_⟩
  unfold RV
  rw [rp_num hq, rq_den hq]
  exact SqT.of upd_same
def spInt (K : PySem.W.Frag) : Sp := fun vs H Q _ => ∃ d : Addr, vs = [.ref d] ∧ DeckAt K H d ∧ ∀ v H', v.natAbs < 10 ^ 60 → DeckAt K H' d → Ex1 d H H' → Q (.int v) H'
theorem int_app {K : PySem.W.Frag} {d : Addr} {H : Hp} {Q : VK} {E : XK} (h : DeckAt K H d) (k : ∀ v H', v.natAbs < 10 ^ 60 → DeckAt K H' d → Ex1 d H H' → Q (.int v) H') : spInt K [.ref d] H Q E := ⟨d, rfl, h, k⟩
def spSameQ (K : PySem.W.Frag) : Sp := fun vs H Q _ => ∃ (a b : Addr) (x : Rat), vs = [.ref a, .ref b] ∧ RV K H a x ∧ RV K H b x ∧ Q (.bl true) H
theorem sameQ_app {K : PySem.W.Frag} {a b : Addr} {x : Rat} {H : Hp} {Q : VK} {E : XK} (h1 : RV K H a x) (h2 : RV K H b x) (q : Q (.bl true) H) : spSameQ K [.ref a, .ref b] H Q E := ⟨a, b, x, rfl, h1, h2, q⟩
def spRat0 (Z : Addr) : Sp := fun vs H _ E => ∃ p : Int, vs = [.int p, .int 0] ∧ E (.ref Z) none H
def spDiv0 (K : PySem.W.Frag) (Z : Addr) : Sp := fun vs H _ E => ∃ (a b : Addr) (x : Rat), vs = [.ref a, .ref b] ∧ RV K H a x ∧ Md x ∧ SqT K H b [.int 0, .int 1] ∧ E (.ref Z) none H
def spRefu (K : PySem.W.Frag) : Sp := fun vs H Q _ => ∃ (p : Int) (a : Addr) (x : Rat), vs = [.int p, .ref a] ∧ RV K H a x ∧ Md x ∧ ∀ H', Same H H' → Q (.bl true) H'
theorem refu_app {K : PySem.W.Frag} {p : Int} {a : Addr} {x : Rat} {H : Hp} {Q : VK} {E : XK} (h : RV K H a x) (m : Md x) (q : ∀ H', Same H H' → Q (.bl true) H') : spRefu K [.int p, .ref a] H Q E := ⟨p, a, x, rfl, h, m, q⟩
theorem rv_int {K : PySem.W.Frag} {H : Hp} {a : Addr} {p : Int} (h : SqT K H a [.int p, .int 1]) : RV K H a (Rat.divInt p 1) := by
  unfold RV
  have e1 : (Rat.divInt p 1).num = p := by rw [Rat.num_divInt]; simp
  have e2 : (Rat.divInt p 1).den = 1 := by rw [Rat.den_divInt]; simp
  rw [e1, e2]
  exact h
end Fl
namespace Fl
open PySem PySem.Spec PyProof.Rows L2
theorem tyT {K : PySem.W.Frag} {H : Hp} {a : Addr} {xs : List V} (h : SqT K H a xs) : TyX K H (.ref a) (.type "tuple") := by
  rcases h with (h | ⟨o, h⟩) | ⟨o, its, n, h, c, _⟩
  · exact .base (.tup h)
  · exact .fTuple h
  · exact .kTuple h c
end Fl
namespace Fl
open PySem PySem.Spec PyProof.Rows L2
theorem pe_cls {X : Cx} {x : Str} {pos : Pos} {a : Addr} (g : Gl X x) (h : X.mg x = some (.ref a)) (n : (x == ("__debug__" : Str)) = false := by decide) : PE X (.Name x pos) (tC (.ref a)) := pe_glob g h rfl n
end Fl
namespace Fl
open PySem PySem.Spec PyProof.Rows L2
theorem pe_asK {X : Cx} {e : Expr} {t t' : TE} (h : PE X e t) (q : t' = t := by rfl) : PE X e t' := by subst q; exact h
end Fl
namespace Fl
open PySem PySem.Spec PyProof.Rows L2
theorem pe_bmK {X : Cx} {K : PySem.W.Frag} {o e : Expr} {es : List Expr} {to : TE} {t : TA} {T id : String} {name : Str} {apos cpos : Pos} {r : V → List V → Hp → VK → Prop} (eK : X.K = K) (pa : PlainAttrs T) (slot : Slot T name id) (hty : typeOf (.builtin id) = pure (.type "method_descriptor")) (hm : MtR X id r) (ho : PE X o to) (ha : PA X (e :: es) t)
    (h1 : attributeBase o name X.env (eval o X.env) = eval o X.env := by rfl)
    (h2 : ((backTo cpos (starEach (e :: es) X.env)).all (fun x => !x.1) && (backToKw cpos (keywordEach [] X.env)).all (fun x => x.1.isSome) && decide ((e :: es).length + ([] : List Keyword).length + (if ([] : List Keyword).isEmpty then 0 else 1) < 30)) = true := by rfl)
    (h3 : (apos.endLine == cpos.line) = true := by rfl) (h4 : starEach (e :: es) X.env = (false, eval e X.env) :: starEach es X.env := by rfl) (h5 : (backTo cpos (starEach es X.env)).any (·.1) = false := by rfl) :
    PE X (.Call (.Attribute o name apos) (e :: es) [] cpos) (tBM K T r to t) := by
  subst eK
  exact pe_bm pa slot hty hm ho ha h1 h2 h3 h4 h5
end Fl
namespace Fl
open PySem PySem.Spec PyProof.Rows L2
theorem kit_self (K : PySem.W.Frag) (a : Addr) : PySem.W.kitOne K (.ref a) (.ref a) = some true := by
  unfold PySem.W.kitOne
  rw [if_pos (by simp)]
theorem kit_typ {K : PySem.W.Frag} {a : Addr} {T : String} {b : Bool} (h : PySem.W.subIn K (.ref a) (.type T) = some b) (m : PySem.W.kitMeta T = true) : PySem.W.kitOne K (.ref a) (.type T) = some b := by
  unfold PySem.W.kitOne
  rw [if_neg (by intro z; cases z)]
  show (if PySem.W.kitMeta T = true then PySem.W.subIn K (.ref a) (.type T) else none) = some b
  rw [if_pos m, h]
end Fl

set_option Elab.async false
set_option linter.all false
set_option maxRecDepth 100000
set_option maxHeartbeats 4000000
set_option exponentiation.threshold 20000
/-! comprehensions that draw; fractions as data; lists taken apart; sorted -/
namespace Fl
open PySem PySem.Spec PyProof.Rows L2
section
variable {S X : List Addr} {H1 : Hp} {K : PySem.W.Frag}
/-- the list D at turn i of a comprehension whose steps change what stands at X and keep I -/
structure GenAt (S X : List Addr) (I : Hp → Prop) (Pr : PyData → Prop) (H1 : Hp) (D : Addr) (i : Nat) (H : Hp) : Prop where
  ex : ∃ (acc : List V) (rs : List PyData), H D = some (.lst acc) ∧ DqA (D :: S) H acc rs ∧ rs.length = i ∧ ∀ r, r ∈ rs → Pr r
  fr : Fr (D :: X) H1 H
  inv : I H
theorem lcG {n : Nat} {lo : Int} {j : Nat} {te : TE} {vs : List Nat} {σ : L2.St} {Q : VK} (X : List Addr) (I : Hp → Prop) (Pr : PyData → Prop) (hS : Al S H1) (hX : ∀ b, b ∈ X → b ∈ S) (hI : I H1) (hz : n < 1000)
    (hA : ∀ H, I H → Al X H) (hP : ∀ D H o, H1 D = none → I H → I (upd H D o))
    (step : ∀ (D : Addr) (i : Nat) (H : Hp), H1 D = none → i < n → Al (D :: S) H → I H →
      ∀ (R : V → Hp → Prop), (∀ y H' r, Fr X H H' → I H' → Dq (D :: S) H' y r → Pr r → R y H') →
      wipe ((wipe σ vs).set j (some (.int (lo + i)))) vs = wipe σ vs ∧ te ((wipe σ vs).set j (some (.int (lo + i)))) H R)
    (q : ∀ (D : Addr) (H : Hp) (rs : List PyData), Fr X H1 H → I H → H1 D = none → Dq S H (.ref D) (.list rs) → rs.length = n → (∀ r, r ∈ rs → Pr r) → Q (.ref D) H) :
    lcK (Itr lo n) (gName j) tYes te vs σ H1 Q := by
  unfold lcK
  intro D hD
  have hDX : D ∉ X := fun m => hS D (hX D m) hD
  refine lc_range (GenAt S X I Pr H1 D) ⟨⟨[], [], upd_same, .nil, rfl, fun _ m => nomatch m⟩, Fr.same (Fl.Same.new hD), hP D H1 _ hD hI⟩ ?_ ?_
  · intro i H hlt h
    obtain ⟨⟨acc, rs, hacc, hd, hl, hp⟩, hf, hi⟩ := h
    have hAl : Al (D :: S) H := .cons (by rw [hacc]; simp) (hS.fr hf fun b m => by
      rcases List.mem_cons.mp m with rfl | m
      · rw [hacc]; simp
      · exact hA H hi b m)
    have st := step D i H hD hlt hAl hi (fun y H4 => ∃ acc, H4 D = some (.lst acc) ∧ acc.length < sizeLine ∧ GenAt S X I Pr H1 D (i + 1) (upd H4 D (.lst (acc ++ [y])))) ?_
    · exact ⟨st.1, st.2⟩
    · intro y H' r f k dq hr
      have f' : Fr (D :: S) H H' := f.mono fun b m => List.mem_cons_of_mem _ (hX b m)
      refine ⟨acc, f D _ hDX hacc, ?_, ⟨acc ++ [y], rs ++ [r], upd_same, ?_, ?_, ?_⟩, ?_, ?_⟩
      · have := hd.len
        have : (1000 : Nat) ≤ sizeLine := by decide
        omega
      · exact ((hd.fr f').app (.one dq)).fr (Fr.upd (by simp))
      · rw [List.length_append, hl]
        rfl
      · intro p m
        rcases List.mem_append.mp m with m | m
        · exact hp p m
        · rw [show p = r by simpa using m]
          exact hr
      · exact (hf.trans (f.mono fun b m => List.mem_cons_of_mem _ m)).trans (Fr.upd (by simp))
      · exact hP D H' _ hD k
  · intro H h
    obtain ⟨⟨acc, rs, hacc, hd, hl, hp⟩, hf, hi⟩ := h
    refine q D H rs (fun b o n e => hf b o (fun m => ?_) e) hi hD (.lst (hS.ni hD) hacc hd.tail) hl hp
    rcases List.mem_cons.mp m with rfl | m
    · rw [hD] at e; cases e
    · exact n m
end
/-! fractions as data -/
def iq (n : Int) : Rat := Rat.divInt n 1
def fqD (x : Rat) : PyData := .tuple [.int x.num, .int (x.den : Int)]
theorem fqE {S : List Addr} {H : Hp} {v : V} {x : Rat} (h : Dq S H v (fqD x)) : ∃ a, v = .ref a ∧ a ∉ S ∧ H a = some (.tup [.int x.num, .int (x.den : Int)]) := by
  obtain ⟨a, xs, rfl, na, hx, hd⟩ := h.tupE
  obtain ⟨_, _, rfl, h1, hd⟩ := hd.consE
  obtain ⟨_, _, rfl, h2, hd⟩ := hd.consE
  cases hd.nilE
  cases h1.intE
  cases h2.intE
  exact ⟨a, rfl, na, hx⟩
theorem fqI {S : List Addr} {H : Hp} {a : Addr} {x : Rat} (n : a ∉ S) (q : H a = some (.tup [.int x.num, .int (x.den : Int)])) : Dq S H (.ref a) (fqD x) := .tup n q (.cons (.int _) (.cons (.int _) .nil))
theorem eqf_app {K : PySem.W.Frag} {a b : Addr} {x y : Rat} {H : Hp} {Q : VK} (h1 : RV K H a x) (h2 : RV K H b y) (q : Q (.bl (decide (x = y))) H) : rEqD K (.ref a) (.ref b) H Q := by
  have d1 : ∀ {a : Addr} {x : Rat}, RV K H a x → Dp K H (.ref a) (.tuple [.int x.num, .int x.den]) := fun h => .tup h (.cons (.int _) (.cons (.int _) .nil))
  refine ⟨_, _, d1 h1, d1 h2, rfl, rfl, ?_⟩
  by_cases e : x = y
  · subst e
    have e2 : PyData.eqv (.tuple [.int x.num, .int x.den]) (.tuple [.int x.num, .int x.den]) = true := SeqAt.eqv_refl _ rfl
    rw [e2]
    simpa using q
  · have e2 : PyData.eqv (.tuple [.int x.num, .int x.den]) (.tuple [.int y.num, .int y.den]) = false := by
      cases hb : PyData.eqv (.tuple [.int x.num, .int x.den]) (.tuple [.int y.num, .int y.den]) with
      | false => rfl
      | true =>
        exfalso
        apply e
        simp [PyData.eqv, PyData.eqvAll] at hb
        exact Rat.ext hb.1 (by omega)
    rw [e2]
    simpa [e] using q
/-! [ratio(n) for n in a tuple of integers] -/
theorem lcT {K : PySem.W.Frag} {H1 : Hp} {a : Addr} {ns : List Int} {j : Nat} {te : TE} {vs : List Nat} {σ : L2.St} {Q : VK} (ha : SqT K H1 a (ns.map V.int)) (hz : ns.length < 1000)
    (step : ∀ (D : Addr) (i : Nat) (n : Int) (H : Hp), H1 D = none → ns[i]? = some n → Same H1 H →
      ∀ (R : V → Hp → Prop), (∀ t H', H t = none → Same H H' → RV K H' t (iq n) → R (.ref t) H') →
      wipe ((wipe σ vs).set j (some (.int n))) vs = wipe σ vs ∧ te ((wipe σ vs).set j (some (.int n))) H R)
    (q : ∀ (D : Addr) (H : Hp) (ts : List Addr), Same H1 H → H D = some (.lst (ts.map V.ref)) → ts.length = ns.length → (∀ (k : Nat) (t : Addr) (n : Int), ts[k]? = some t → ns[k]? = some n → RV K H t (iq n)) → Q (.ref D) H) :
    lcK (Itt K a) (gName j) tYes te vs σ H1 Q := by
  unfold lcK
  intro D hD
  refine lc_tup (xs := ns.map V.int) (fun i H => (∃ ts : List Addr, H D = some (.lst (ts.map V.ref)) ∧ ts.length = i ∧ ∀ (k : Nat) (t : Addr) (n : Int), ts[k]? = some t → ns[k]? = some n → t ≠ D ∧ RV K H t (iq n)) ∧ Fr [D] H1 H) ⟨⟨[], upd_same, rfl, fun k t n h => by simp at h⟩, Fr.same (Fl.Same.new hD)⟩ ?_ ?_ ?_
  · intro i H _ ⟨_, hf⟩
    exact Fl.Same.t (sm_of hD hf) ha
  · intro i x H hx ⟨⟨ts, hts, hl, hr⟩, hf⟩
    have hlt : i < ns.length := by
      have := (List.getElem?_eq_some_iff.mp hx).1
      simpa using this
    rw [List.getElem?_map] at hx
    cases hn : ns[i]? with
    | none => rw [hn] at hx; cases hx
    | some n =>
      rw [hn] at hx
      cases hx
      have st := step D i n H hD hn (sm_of hD hf) (fun y H4 => ∃ acc, H4 D = some (.lst acc) ∧ acc.length < sizeLine ∧ ((∃ ts : List Addr, (upd H4 D (.lst (acc ++ [y]))) D = some (.lst (ts.map V.ref)) ∧ ts.length = i + 1 ∧ ∀ (k : Nat) (t : Addr) (n : Int), ts[k]? = some t → ns[k]? = some n → t ≠ D ∧ RV K (upd H4 D (.lst (acc ++ [y]))) t (iq n)) ∧ Fr [D] H1 (upd H4 D (.lst (acc ++ [y]))))) ?_
      · exact ⟨st.1, st.2⟩
      · intro t H' ht sm rv
        have htD : t ≠ D := fun e => by rw [e, hts] at ht; cases ht
        refine ⟨ts.map V.ref, sm _ _ hts, ?_, ⟨ts ++ [t], ?_, ?_, ?_⟩, ?_⟩
        · have : (1000 : Nat) ≤ sizeLine := by decide
          rw [List.length_map]
          omega
        · rw [upd_same, List.map_append]
          rfl
        · rw [List.length_append, hl]
          rfl
        · intro k u m hk hm
          by_cases hki : k < ts.length
          · rw [List.getElem?_append_left hki] at hk
            obtain ⟨g1, g2⟩ := hr k u m hk hm
            exact ⟨g1, RV.ex1 Ex1.upd g1 (g2.same sm)⟩
          · rw [List.getElem?_append_right (by omega)] at hk
            have hk0 : k - ts.length = 0 := by
              have := (List.getElem?_eq_some_iff.mp hk).1
              simp at this
              omega
            rw [hk0] at hk
            cases hk
            have : k = i := by omega
            rw [this, hn] at hm
            cases hm
            exact ⟨htD, RV.ex1 Ex1.upd htD rv⟩
        · exact (hf.trans (Fr.same sm)).trans (Fr.upd (by simp))
  · intro H ⟨⟨ts, hts, hl, hr⟩, hf⟩
    rw [List.length_map] at hl
    exact q D H ts (sm_of hD hf) hts hl (fun k t n h1 h2 => (hr k t n h1 h2).2)
/-! a, b, .. = a list -/
theorem pgL {X : Cx} {K : PySem.W.Frag} {es : List Expr} {j : Nat} {t : TGs} {n : Nat} {pos : Pos} (e : X.K = K) (hc : X.calm = true) (h : PGs X es t)
    (hn : (assignEach es X.env).length = n := by rfl) (hst : (assignEach es X.env).findIdx? (·.1) = none := by rfl) : PG X (.Tuple es j pos) (gLst K n t) := by subst e; exact pg_lst hc h hn hst
theorem g_glst {K : PySem.W.Frag} {n : Nat} {t : TGs} {a : Addr} {xs : List V} {σ : L2.St} {H : Hp} {Q : L2.St → Hp → Prop} (h : SqL K H a xs) (e : xs.length = n) (q : t xs σ H Q) : gLst K n t (.ref a) σ H Q := ⟨a, xs, rfl, h, e, q⟩
/-! sorted of a few integers -/
theorem clSort {X : Cx} {K : PySem.W.Frag} (e : X.K = K) : CallR X (.builtin "sorted") (rSorted K) := by subst e; exact cr_sorted
theorem g_sort {K : PySem.W.Frag} {a : Addr} {ns : List Int} {H : Hp} {Q : VK} (h : SqL K H a (ns.map V.int)) (hz : ns.length < 64) (q : ∀ (ns' : List Int) (p : Addr), ns'.Perm ns → ns'.Pairwise (· ≤ ·) → H p = none → Q (.ref p) (upd H p (.lst (ns'.map V.int)))) : rSorted K [.ref a] H Q := ⟨a, ns, rfl, h, hz, q⟩
theorem sort3 {ns : List Int} {a b c lo hi : Int} (hp : ns.Perm [a, b, c]) (hs : ns.Pairwise (· ≤ ·)) (ha : lo ≤ a ∧ a ≤ hi) (hb : lo ≤ b ∧ b ≤ hi) (hc : lo ≤ c ∧ c ≤ hi) : ∃ x y z, ns = [x, y, z] ∧ lo ≤ x ∧ x ≤ y ∧ y ≤ z ∧ z ≤ hi := by
  have hl := hp.length_eq
  match ns, hl with
  | [x, y, z], _ =>
    have hx : ∀ v, v ∈ [x, y, z] → lo ≤ v ∧ v ≤ hi := fun v m => by
      have := hp.mem_iff.mp m
      simp at this
      rcases this with rfl | rfl | rfl <;> assumption
    have h1 := hx x (by simp)
    have h3 := hx z (by simp)
    simp at hs
    exact ⟨x, y, z, rfl, h1.1, hs.1.1, hs.2, h3.2⟩
end Fl

set_option Elab.async false
set_option linter.all false
set_option maxRecDepth 100000
set_option maxHeartbeats 4000000
set_option exponentiation.threshold 20000
/-! objects of the program's own classes: made with named parameters, their fields set and read -/
namespace Fl
open PySem PySem.Spec PyProof.Rows L2

/-! ### parameters put in order -/
def pick {α : Type} (is : List Nat) (l : List α) : List α := is.filterMap fun i => l[i]?
theorem Vals.getO : ∀ {vs : List V} {us : List Value} (h : Vals vs us) (i : Nat), (∃ v u, vs[i]? = some v ∧ us[i]? = some u ∧ RelV v u) ∨ (vs[i]? = none ∧ us[i]? = none)
  | _, _, .nil, i => .inr ⟨by simp, by simp⟩
  | _, _, .cons h r, 0 => .inl ⟨_, _, rfl, rfl, h⟩
  | _, _, .cons h r, i + 1 => by
    rcases Vals.getO r i with ⟨v, u, a, b, c⟩ | ⟨a, b⟩
    · exact .inl ⟨v, u, by simpa using a, by simpa using b, c⟩
    · exact .inr ⟨by simpa using a, by simpa using b⟩
theorem Vals.pick {vs : List V} {us : List Value} (h : Vals vs us) : ∀ is : List Nat, Vals (Fl.pick is vs) (Fl.pick is us)
  | [] => .nil
  | i :: is => by
    unfold Fl.pick
    rw [List.filterMap_cons, List.filterMap_cons]
    rcases Vals.getO h i with ⟨v, u, a, b, c⟩ | ⟨a, b⟩
    · rw [a, b]
      exact .cons c (Vals.pick h is)
    · rw [a, b]
      exact Vals.pick h is
theorem Vals.app : ∀ {vs : List V} {us : List Value} {ws : List V} {zs : List Value}, Vals vs us → Vals ws zs → Vals (vs ++ ws) (us ++ zs)
  | _, _, _, _, .nil, k => k
  | _, _, _, _, .cons h r, k => .cons h (Vals.app r k)

/-! ### classes -/
/-- a class without bases whose __init__ has named parameters with defaults -/
structure ClsI (K : PySem.W.Frag) (mg : Str → Option Value) (x qual : Str) (st : Stmt) (fs : List Str) (kws : List (Str × V)) : Prop where
  g : mg x = some (.ref (adr mg x))
  cl : Cls K (adr mg x)
  na : ∀ f, f ∈ fs → NoAttr K (adr mg x) f
  mi : ∃ (f : Addr) (fd : FuncData), Mk K (adr mg x) f ∧ FunD K "__init__" qual (defArgs st) (defBody st) (defScope st) [] kws f fd
/-- the class can be called with n values and the names ks -/
structure MkI (P : Program) (w : World) (K : PySem.W.Frag) (mg : Str → Option Value) (base : Heap) (k : Nat) (x : Str) (n : Nat) (ks : List Str) (gV : List V → List V → List V) (sp : Sp) : Prop where
  ex : ∃ (f : Addr) (fd : FuncData) (ps : List Str) (g : List Value → List Value → List Value), mg x = some (.ref (adr mg x)) ∧ Mk K (adr mg x) f ∧ FnOk P w K mg base L2.CX0 k f fd ps sp ∧ KBn K fd ps (n + 1) ks g gV
theorem MkI.mono {P : Program} {w : World} {K : PySem.W.Frag} {mg : Str → Option Value} {base : Heap} {j k : Nat} {x : Str} {n : Nat} {ks : List Str} {gV : List V → List V → List V} {sp : Sp} (h : MkI P w K mg base j x n ks gV sp) (e : j ≤ k) : MkI P w K mg base k x n ks gV sp := by
  obtain ⟨f, fd, ps, g, a, b, c, d⟩ := h.ex
  exact ⟨f, fd, ps, g, a, b, c.mono e, d⟩
/-- an __init__'s promise -/
structure InI (P : Program) (w : World) (K : PySem.W.Frag) (mg : Str → Option Value) (base : Heap) (k : Nat) (x qual : Str) (st : Stmt) (fs : List Str) (kws : List (Str × V)) (ps : List Str) (sp : Sp) : Prop where
  ex : ∃ (f : Addr) (fd : FuncData), mg x = some (.ref (adr mg x)) ∧ Mk K (adr mg x) f ∧ FunD K "__init__" qual (defArgs st) (defBody st) (defScope st) [] kws f fd ∧ FnOk P w K mg base L2.CX0 k f fd ps sp
section
variable {P : Program} {w : World} {K : PySem.W.Frag} {mg : Str → Option Value} {base : Heap}
theorem inI_of {x qual : Str} {st : Stmt} {fs : List Str} {kws : List (Str × V)} {N ps : List Str} {k : Nat} {sp : Sp} (D : ClsI K mg x qual st fs kws) (S : FnScope N ps (defScope st))
    (len : ∀ vs H Q E, sp vs H Q E → vs.length = ps.length)
    (hbody : ∀ (f : Addr) (cdv : Value) (A : Around) (outer : List Env) (s : Shared) (H : Hp) (vs : List V) (Q : VK) (E : XK), Room k (A.deeper (envOfC qual (defScope st) s.heap.objs.size f cdv)) → sp vs H Q E →
      ∃ t, PSs (bx P w K mg base N qual st f cdv A outer s H E) (defBody st) t ∧ t { nx := fun _ H' => Q .non H', rt := Q } (start N vs) H) : InI P w K mg base (k + 1) x qual st fs kws ps sp := by
  obtain ⟨f, fd, M, F⟩ := D.mi
  refine ⟨f, fd, D.g, M, F, F.ok S len fun cdv A outer s H vs Q E hr h => ?_⟩
  obtain ⟨t, ht, q⟩ := hbody f cdv A outer s H vs Q E hr h
  exact ⟨t, ht.nox, q⟩
/-- the calls with n values and the names ks; ms stand by default; is: where each parameter stands in values, defaults, named ones -/
theorem InI.make {x qual : Str} {st : Stmt} {fs : List Str} {kws : List (Str × V)} {ps : List Str} {k : Nat} {sp : Sp} (D : InI P w K mg base k x qual st fs kws ps sp) (n : Nat) (ks : List Str) (ms : List (Str × V)) (is : List Nat) (hk : kws ≠ [])
    (hm : ∀ q, q ∈ ms → q ∈ kws)
    (hb : ∀ (D : Addr) (doc pm : Value) (an : Option Addr) (cdv ct : Value) (us mv ws : List Value), us.length = n + 1 → mv.length = ms.length → ws.length = ks.length →
      KwChain D ((ms.map (fun x => x.fst)).zip mv) (bindArgs (PySem.W.fnOf "__init__" qual (defArgs st) (defBody st) (defScope st) .none (.ref D) doc pm an cdv ct) ⟨us, ks.zip ws⟩) (ps.zip (pick is (us ++ (mv ++ ws))))) :
    MkI P w K mg base k x n ks (fun vs zs => pick is (vs ++ (ms.map (fun x => x.snd) ++ zs))) sp := by
  obtain ⟨f, fd, a, M, F, G⟩ := D.ex
  obtain ⟨mv, b⟩ := F.kbinds0 (n + 1) ks ms (fun {α} us mv ws => pick is (us ++ (mv ++ ws))) hk hm (fun h1 h2 h3 => Vals.pick (Vals.app h1 (Vals.app h2 h3)) is) hb
  exact ⟨f, fd, ps, _, a, M, G, b⟩
end
theorem pe_mk {X : Cx} {mg : Str → Option Value} {k n : Nat} {x : Str} {ks : List Str} {sp : Sp} {gV : List V → List V → List V} {e : Expr} {es : List Expr} {kws : List Keyword} {t tk : TA} {p pos : Pos} (em : X.mg = mg) (h : MkI X.prog X.w X.K X.mg X.base k x n ks gV sp) (hr : Room (k + 1) X.A) (ha : PA X (e :: es) t) (hk : PK X kws tk) (hg : Gl X x := by rfl)
    (h1 : ((backToKw pos (keywordEach kws X.env)).all fun x => x.fst.isSome) = true := by rfl) (h2 : List.filterMap (fun x => x.fst) (backToKw pos (keywordEach kws X.env)) = ks := by rfl)
    (hdb : (x == ("__debug__" : Str)) = false := by decide) (he : starEach (e :: es) X.env = (false, eval e X.env) :: starEach es X.env := by rfl)
    (hpl : (((backTo pos (starEach (e :: es) X.env)).any fun x => x.fst) || (backToKw pos (keywordEach kws X.env)).any fun x => x.fst.isNone) = false := by rfl) :
    PE X (.Call (.Name x p) (e :: es) kws pos) (tMakeK (adr mg x) n ks.length sp gV E0 t tk) := by
  subst em
  obtain ⟨f, fd, ps, g, a, b, c, d⟩ := h.ex
  exact pe_makeK b c hr hg a d pass0 ha hk h1 h2 hdb he hpl

/-! ### walked things of two kinds -/
def iOr (t1 t2 : TI) : TI := fun σ H R => t1 σ H R ∨ t2 σ H R
theorem piOr {X : Cx} {tg l : Expr} {t1 t2 : TI} (h1 : PI X tg l t1) (h2 : PI X tg l t2) : PI X tg l (iOr t1 t2) := ⟨fun pins s σ H R I h => h.elim (h1.run pins s σ H R I) (h2.run pins s σ H R I)⟩
theorem piS {X : Cx} {K : PySem.W.Frag} {l tg : Expr} {tl : TE} (e : X.K = K) (h : PE X l tl) : PI X tg l (iOr (iList K tl) (iTup K tl)) := piOr (piL e h) (piT e h)
section
variable {X : Cx} {K : PySem.W.Frag}
def rTupOf (K : PySem.W.Frag) : List V → Hp → VK → Prop := fun xs H Q => ∃ p ys, xs = [V.ref p] ∧ ((SqL K H p ys ∧ ∀ l, H l = none → Q (.ref l) (upd H l (.tup ys))) ∨ SqT K H p ys ∧ Q (.ref p) H)
theorem clTupOf (e : X.K = K) : CallR X (.type "tuple") (rTupOf K) := by subst e; exact call_tuple_of
def rLstOf (K : PySem.W.Frag) : List V → Hp → VK → Prop := fun xs H Q => ∃ p ys, xs = [V.ref p] ∧ (SqL K H p ys ∨ SqT K H p ys) ∧ ∀ l, H l = none → Q (.ref l) (upd H l (.lst ys))
theorem clLstOf (e : X.K = K) : CallR X (.type "list") (rLstOf K) := by subst e; exact call_list_of
/-- o.f = e, within a written part of its own -/
theorem psFld {o value : Expr} {f : Str} {pos pos' : Pos} {ta tv : TE} (e : X.K = K) (h1 : PE X o ta) (h2 : PE X value tv) (hs : swapsWith value (some (o.Attribute f pos')) pos.line X.env = pure false) : PS X (.Assign [o.Attribute f pos'] value pos) (sFld K ta tv f) := by subst e; exact ps_fld h1 h2 hs
theorem peFld {o : Expr} {f : Str} {pos : Pos} {ta : TE} (e : X.K = K) (h : PE X o ta) (hb : attributeBase o f X.env (eval o X.env) = eval o X.env) : PE X (o.Attribute f pos) (tFld K ta f) := by subst e; exact pe_fld h hb
end

/-! ### data of objects -/
def encF (p : Str × PyData) : PyData × PyData := (.str p.1, p.2)
def insD (C : Addr) (fs : List (Str × PyData)) : PyData := .dict ((.none, .int (C : Int)) :: fs.map encF)
inductive DqN (S : List Addr) (H : Hp) : List (Str × V) → List (Str × PyData) → Prop
  | nil : DqN S H [] []
  | cons {n : Str} {v : V} {d : PyData} {fs : List (Str × V)} {ds : List (Str × PyData)} : Dq S H v d → DqN S H fs ds → DqN S H ((n, v) :: fs) ((n, d) :: ds)
section
variable {S T : List Addr} {H H' : Hp} {fs gs : List (Str × V)} {ds es : List (Str × PyData)} {v : V} {d : PyData} {n : Str}
theorem DqN.enc : ∀ {fs : List (Str × V)} {ds : List (Str × PyData)}, DqN S H fs ds → DqF S H fs (ds.map encF)
  | _, _, .nil => .nil
  | _, _, .cons h r => .cons h (DqN.enc r)
theorem DqF.dec : ∀ {fs : List (Str × V)} {ds : List (Str × PyData)}, DqF S H fs (ds.map encF) → DqN S H fs ds
  | _, [], h => by cases h; exact .nil
  | _, (n, d) :: ds, h => by
    cases h with
    | cons h r => exact .cons h (DqF.dec r)
theorem DqN.app : ∀ {fs gs : List (Str × V)} {ds es : List (Str × PyData)}, DqN S H fs ds → DqN S H gs es → DqN S H (fs ++ gs) (ds ++ es)
  | _, _, _, _, .nil, k => k
  | _, _, _, _, .cons h r, k => .cons h (DqN.app r k)
theorem DqN.fr : ∀ {fs : List (Str × V)} {ds : List (Str × PyData)}, DqN S H fs ds → Fr S H H' → DqN S H' fs ds
  | _, _, .nil, _ => .nil
  | _, _, .cons h r, e => .cons (h.fr e) (DqN.fr r e)
theorem DqN.mono : ∀ {fs : List (Str × V)} {ds : List (Str × PyData)}, DqN S H fs ds → (∀ a, a ∈ T → a ∈ S) → DqN T H fs ds
  | _, _, .nil, _ => .nil
  | _, _, .cons h r, e => .cons (h.mono e) (DqN.mono r e)
theorem DqN.names : ∀ {fs : List (Str × V)} {ds : List (Str × PyData)}, DqN S H fs ds → fs.map Prod.fst = ds.map Prod.fst
  | _, _, .nil => rfl
  | _, _, .cons h r => by rw [List.map_cons, List.map_cons, DqN.names r]
theorem DqN.look : ∀ {fs : List (Str × V)} {ds : List (Str × PyData)} {d : PyData}, DqN S H fs ds → ds.lookup n = some d → ∃ v, fs.lookup n = some v ∧ Dq S H v d
  | _, _, _, .nil, e => by simp at e
  | _, _, d, .cons (n := m) h r, e => by
    rw [List.lookup_cons] at e ⊢
    cases hb : n == m with
    | true => rw [hb] at e; cases e; exact ⟨_, rfl, h⟩
    | false => rw [hb] at e; exact DqN.look r e
theorem Dq.insE {C : Addr} (h : Dq S H v (insD C ds)) : ∃ a dx fs, v = .ref a ∧ a ∉ S ∧ H a = some (.ins C dx fs) ∧ DqN S H fs ds := by
  unfold insD at h
  generalize e : (C : Int) = c at h
  cases h with
  | ins n q r =>
    rename_i C' dx fs
    have : C = C' := by exact_mod_cast e
    subst this
    exact ⟨_, _, _, rfl, n, q, DqF.dec r⟩
theorem Dq.insI {C a dx : Addr} (n : a ∉ S) (q : H a = some (.ins C dx fs)) (r : DqN S H fs ds) : Dq S H (.ref a) (insD C ds) := .ins n q r.enc
end
/-- an empty tuple of the written part: a default -/
def EmT (K : PySem.W.Frag) (a : Addr) : Prop := ∃ o its n, K.lookup a = some o ∧ o.cls = .type "tuple" ∧ o.data = .seq its n ∧ its.size ≤ sizeLine ∧ Vals [] its.toList
theorem EmT.sq {K : PySem.W.Frag} {a : Addr} (h : EmT K a) (H : Hp) : SqT K H a [] := .inr h
/-- what may be handed to a maker: data, or a default () -/
def De (K : PySem.W.Frag) (S : List Addr) (H : Hp) (v : V) (d : PyData) : Prop := Dq S H v d ∨ (d = .tuple [] ∧ ∃ a, v = .ref a ∧ EmT K a)
inductive DeA (K : PySem.W.Frag) (S : List Addr) (H : Hp) : List V → List PyData → Prop
  | nil : DeA K S H [] []
  | cons {v : V} {vs : List V} {d : PyData} {ds : List PyData} : De K S H v d → DeA K S H vs ds → DeA K S H (v :: vs) (d :: ds)
section
variable {K : PySem.W.Frag} {S T : List Addr} {H H' : Hp} {v : V} {d : PyData} {vs : List V} {ds : List PyData}
theorem De.fr (h : De K S H v d) (e : Fr S H H') : De K S H' v d := h.imp (fun h => h.fr e) id
theorem De.mono (h : De K S H v d) (k : ∀ a, a ∈ T → a ∈ S) : De K T H v d := h.imp (fun h => h.mono k) id
theorem De.new {p : Addr} (h : De K S H v d) (e : H p = none) : De K (p :: S) H v d := h.imp (fun h => h.new e) id
theorem DeA.fr : ∀ {vs : List V} {ds : List PyData}, DeA K S H vs ds → Fr S H H' → DeA K S H' vs ds
  | _, _, .nil, _ => .nil
  | _, _, .cons h r, e => .cons (h.fr e) (DeA.fr r e)
theorem DeA.new {p : Addr} : ∀ {vs : List V} {ds : List PyData}, DeA K S H vs ds → H p = none → DeA K (p :: S) H vs ds
  | _, _, .nil, _ => .nil
  | _, _, .cons h r, e => .cons (h.new e) (DeA.new r e)
theorem DeA.consE (h : DeA K S H vs (d :: ds)) : ∃ v ws, vs = v :: ws ∧ De K S H v d ∧ DeA K S H ws ds := by
  cases h with
  | cons h r => exact ⟨_, _, rfl, h, r⟩
theorem DeA.nilE (h : DeA K S H vs []) : vs = [] := by cases h; rfl
theorem De.lst {xs : List PyData} (h : De K S H v (.list xs)) : Dq S H v (.list xs) := by
  rcases h with h | ⟨e, _⟩
  · exact h
  · cases e
theorem De.ofDq (h : Dq S H v d) : De K S H v d := .inl h
end
/-- the items of a list or a tuple -/
def sqI : PyData → Option (List PyData)
  | .list xs => some xs
  | .tuple xs => some xs
  | _ => none
theorem De.seq {K : PySem.W.Frag} {S : List Addr} {H : Hp} {v : V} {d : PyData} {xs : List PyData} (h : De K S H v d) (e : sqI d = some xs) :
    ∃ a vs, v = .ref a ∧ DqA S H vs xs ∧ (∀ H', Fr S H H' → SqL K H' a vs) ∨ (∃ a vs, v = .ref a ∧ DqA S H vs xs ∧ (∀ H', Fr S H H' → SqT K H' a vs)) := by
  rcases h with h | ⟨rfl, a, rfl, m⟩
  · cases h with
    | lst n q r => cases e; exact ⟨_, _, .inl ⟨rfl, r, fun H' f => SqL.of (f _ _ n q)⟩⟩
    | tup n q r => cases e; exact ⟨0, [], .inr ⟨_, _, rfl, r, fun H' f => SqT.of (f _ _ n q)⟩⟩
    | _ => cases e
  · cases e
    exact ⟨0, [], .inr ⟨a, [], rfl, .nil, fun H' f => m.sq H'⟩⟩
/-- a function of what may be handed to a maker -/
def spE (K : PySem.W.Frag) (f : List PyData → PyData → Prop) : Sp := fun vs H Q _ => ∃ S ds d, Al S H ∧ DeA K S H vs ds ∧ f ds d ∧ ∀ v H', Same H H' → Dq S H' v d → Q v H'
theorem spE_app {K : PySem.W.Frag} {f : List PyData → PyData → Prop} {vs : List V} {H : Hp} {Q : VK} {E : XK} (S : List Addr) (ds : List PyData) (d : PyData) (hS : Al S H) (hd : DeA K S H vs ds) (hf : f ds d) (q : ∀ v H', Same H H' → Dq S H' v d → Q v H') : spE K f vs H Q E :=
  ⟨S, ds, d, hS, hd, hf, q⟩
/-- an __init__: the new object's fields -/
def spI (K : PySem.W.Frag) (C : Addr) (f : List PyData → List (Str × PyData) → Prop) : Sp := fun vs H Q _ =>
  ∃ S x dx ws ds fs, vs = .ref x :: ws ∧ x ∈ S ∧ Al S H ∧ H x = some (.ins C dx []) ∧ DeA K S H ws ds ∧ f ds fs ∧ ∀ H' gs, Fr [x] H H' → H' x = some (.ins C dx gs) → DqN S H' gs fs → Q .non H'
theorem mk_app {K : PySem.W.Frag} {C : Addr} {f : List PyData → List (Str × PyData) → Prop} {ws : List V} {H : Hp} {Z : Addr → Hp → Prop} {E : XK} {gl : Addr → List V} (S : List Addr) (ds : List PyData) (fs : List (Str × PyData)) (hg : ∀ x, gl x = .ref x :: ws) (hS : Al S H) (hd : DeA K S H ws ds) (hf : f ds fs)
    (q : ∀ x H', Same H H' → Dq S H' (.ref x) (insD C fs) → Z x H') :
    ∀ x dx, H x = none → H dx = none → dx ≠ x → spI K C f (gl x) (upd (upd H dx (.own x)) x (.ins C dx [])) (fun v H3 => v = .non ∧ Z x H3) E := by
  intro x dx h1 h2 h3
  have s1 : Same H (upd H dx (.own x)) := Fl.Same.new h2
  have h1' : upd H dx (.own x) x = none := by rw [upd_ne (Ne.symm h3)]; exact h1
  have s2 : Same H (upd (upd H dx (.own x)) x (.ins C dx [])) := L2.Same.trans s1 (Fl.Same.new h1')
  have al : Al (x :: S) (upd (upd H dx (.own x)) x (.ins C dx [])) := .cons (by rw [upd_same]; simp) (hS.same s2)
  rw [hg]
  refine ⟨x :: S, x, dx, ws, ds, fs, rfl, by simp, al, upd_same, (hd.new h1).fr (Fr.same s2), hf, fun H' gs f' e n => ⟨rfl, ?_⟩⟩
  have sm : Same H H' := fun a o e2 => f' a o (by simp; intro z; rw [z, h1] at e2; cases e2) (s2 a o e2)
  exact q x H' sm (Dq.insI (hS.ni h1) e (n.mono fun a m => List.mem_cons_of_mem _ m))

/-! ### comprehensions over tuples -/
section
variable {S : List Addr} {H1 : Hp} {K : PySem.W.Frag} {g : TG} {tt : TT} {te : TE} {vs : List Nat} {σ : L2.St} {Q : VK}
theorem lc_tupP {a : Addr} {xs : List V} {D : Addr} {Qd : Hp → Prop} (Pv : Nat → Hp → Prop) (h0 : Pv 0 (upd H1 D (.lst [])))
    (hl : ∀ i H, i ≤ xs.length → Pv i H → SqT K H a xs)
    (hs : ∀ i x H, xs[i]? = some x → Pv i H → g x (wipe σ vs) H fun σ2 H2 => wipe σ2 vs = wipe σ vs ∧ tt σ2 H2 fun b H3 =>
        if b = true then te σ2 H3 fun y H4 => ∃ acc, H4 D = some (.lst acc) ∧ acc.length < sizeLine ∧ Pv (i + 1) (upd H4 D (.lst (acc ++ [y]))) else Pv (i + 1) H3)
    (hd : ∀ H, Pv xs.length H → Qd H) :
    ∃ W : Nat → Nat → Hp → Prop, (∃ m, W 0 m (upd H1 D (.lst []))) ∧ ∀ i m H, W i m H →
      ((Itt K a).stop i H ∧ Qd H) ∨ ((Itt K a).go i H ∧ ∃ Nx : Hp → Prop, (∀ H', Nx H' → ∃ m', m' < m ∧ W (i + 1) m' H') ∧
        ∀ x H', (Itt K a).yld i H x H' → g x (wipe σ vs) H' fun σ2 H2 => wipe σ2 vs = wipe σ vs ∧ tt σ2 H2 fun b H3 =>
          if b = true then te σ2 H3 fun y H4 => ∃ acc, H4 D = some (.lst acc) ∧ acc.length < sizeLine ∧ Nx (upd H4 D (.lst (acc ++ [y]))) else Nx H3) := by
  refine ⟨fun i m H => m = xs.length - i ∧ i ≤ xs.length ∧ Pv i H, ⟨xs.length, rfl, Nat.zero_le _, h0⟩, fun i m H h => ?_⟩
  obtain ⟨rfl, hi, p⟩ := h
  have q := hl i H hi p
  by_cases hlt : i < xs.length
  · refine .inr ⟨⟨xs, xs[i], q, by simp [hlt]⟩, Pv (i + 1), fun H' p' => ⟨xs.length - (i + 1), by omega, rfl, hlt, p'⟩, fun x H' y => ?_⟩
    obtain ⟨rfl, y⟩ := y
    exact hs i x H' (y xs q) p
  · have e : i = xs.length := by omega
    subst e
    exact .inl ⟨⟨xs, q, Nat.le_refl _⟩, hd H p⟩
/-- [elt for x in t if test], t a list or a tuple; nothing changed -/
theorem lcS {wi : TE} {v : V} {d : PyData} {es : List PyData} (f : Nat → Option PyData) (hS : Al S H1) (ha : De K S H1 v d) (he : sqI d = some es) (hz : es.length < 1000)
    (hv : ∀ R : VK, R v H1 → wi σ H1 R)
    (step : ∀ (D : Addr) (i : Nat) (x : V) (e : PyData) (H : Hp), H1 D = none → es[i]? = some e → Same H1 H → Al (D :: S) H → Dq (D :: S) H x e →
      ∀ (R : V → Hp → Prop) (N : Hp → Prop), (∀ r y H4, f i = some r → Same H H4 → Dq (D :: S) H4 y r → R y H4) → (f i = none → ∀ H4, Same H H4 → N H4) →
      g x (wipe σ vs) H fun σ2 H2 => wipe σ2 vs = wipe σ vs ∧ tt σ2 H2 fun b H3 => if b = true then te σ2 H3 R else N H3)
    (q : ∀ (D : Addr) (H : Hp), Same H1 H → H1 D = none → Dq S H (.ref D) (.list ((List.range es.length).filterMap f)) → Q (.ref D) H) :
    iOr (iList K wi) (iTup K wi) σ H1 fun J H1 => lcK J g tt te vs σ H1 Q := by
  obtain ⟨a, xs, h | h⟩ := ha.seq he
  · obtain ⟨rfl, hall, hsq⟩ := h
    refine .inl (hv _ ⟨a, rfl, ⟨xs, hsq H1 Fr.refl⟩, ?_⟩)
    unfold lcK
    intro D hD
    have hlx := hall.len
    have hfr : ∀ H, Fr [D] H1 H → Fr S H1 H := fun H f b o n e => f b o (by simp; intro z; rw [z, hD] at e; cases e) e
    refine lc_list (xs := xs) (CompAt S H1 D f) (CompAt.zero hD) (fun i H _ h => hsq H (hfr H h.fr)) ?_ ?_
    · intro i x H hx h
      have hlt : i < xs.length := (List.getElem?_eq_some_iff.mp hx).1
      have hsm : Same H1 H := sm_of hD h.fr
      obtain ⟨e, he, hxe⟩ := ((hall.new hD).same hsm).get hx
      exact step D i x e H hD he hsm (h.al hS hD) hxe _ _ (fun r y H4 er s d => h.put (by omega) er s d) fun en H4 s => (h.same s).skip en
    · intro H h
      rw [hlx] at h
      exact q D H (sm_of hD h.fr) hD (h.fin hS hD)
  · obtain ⟨a, xs, rfl, hall, hsq⟩ := h
    refine .inr (hv _ ⟨a, rfl, ⟨xs, hsq H1 Fr.refl⟩, ?_⟩)
    unfold lcK
    intro D hD
    have hlx := hall.len
    have hfr : ∀ H, Fr [D] H1 H → Fr S H1 H := fun H f b o n e => f b o (by simp; intro z; rw [z, hD] at e; cases e) e
    refine lc_tupP (xs := xs) (CompAt S H1 D f) (CompAt.zero hD) (fun i H _ h => hsq H (hfr H h.fr)) ?_ ?_
    · intro i x H hx h
      have hlt : i < xs.length := (List.getElem?_eq_some_iff.mp hx).1
      have hsm : Same H1 H := sm_of hD h.fr
      obtain ⟨e, he, hxe⟩ := ((hall.new hD).same hsm).get hx
      exact step D i x e H hD he hsm (h.al hS hD) hxe _ _ (fun r y H4 er s d => h.put (by omega) er s d) fun en H4 s => (h.same s).skip en
    · intro H h
      rw [hlx] at h
      exact q D H (sm_of hD h.fr) hD (h.fin hS hD)
end
end Fl

set_option Elab.async false
set_option linter.all false
set_option maxRecDepth 100000
set_option maxHeartbeats 4000000
set_option exponentiation.threshold 20000
/-! what fonts consist of -/
namespace Fl
open PySem PySem.Spec PyProof.Rows L2
/-! ### readings of fields -/
section
variable {K : PySem.W.Frag} {σ : L2.St} {H : Hp} {Q : VK} {ta tv : TE} {f : Str} {D : Ends} {a C dx : Addr} {fs : List (Str × V)} {v y : V} {l : List Str}
theorem g_fld (h : ta σ H fun x H1 => ∃ a C dx fs v, x = .ref a ∧ H1 a = some (.ins C dx fs) ∧ Cls K C ∧ NoAttr K C f ∧ fs.lookup f = some v ∧ Q v H1) : tFld K ta f σ H Q := h
theorem g_fldE {Z : V → Prop} (h : H a = some (.ins C dx fs)) (c : Cls K C) (n : NoAttr K C f) (e : fs.lookup f = some v) (q : Z v) : ∃ a' C' dx' fs' v', V.ref a = .ref a' ∧ H a' = some (.ins C' dx' fs') ∧ Cls K C' ∧ NoAttr K C' f ∧ fs'.lookup f = some v' ∧ Z v' := ⟨a, C, dx, fs, v, rfl, h, c, n, e, q⟩
theorem g_sf (h : tv σ H fun y H1 => ta σ H1 fun x H2 => ∃ a C dx fs, x = .ref a ∧ H2 a = some (.ins C dx fs) ∧ Cls K C ∧ NoAttr K C f ∧ fs.length < 1000 ∧ D.nx σ (upd H2 a (.ins C dx (putF f y fs)))) : sFld K ta tv f D σ H := h
theorem g_sfE {Z : Hp → Prop} (h : H a = some (.ins C dx fs)) (c : Cls K C) (n : NoAttr K C f) (e : fs.length < 1000) (q : Z (upd H a (.ins C dx (putF f y fs)))) : ∃ a' C' dx' fs', V.ref a = .ref a' ∧ H a' = some (.ins C' dx' fs') ∧ Cls K C' ∧ NoAttr K C' f ∧ fs'.length < 1000 ∧ Z (upd H a' (.ins C' dx' (putF f y fs'))) := ⟨a, C, dx, fs, rfl, h, c, n, e, q⟩
theorem na_of (h : ∀ f, f ∈ l → NoAttr K C f) (m : l.contains f = true) : NoAttr K C f := h f (List.contains_iff_mem.mp m)
theorem putF_new : ∀ {fs : List (Str × V)}, (fs.map Prod.fst).contains f = false → putF f y fs = fs ++ [(f, y)]
  | [], _ => rfl
  | (g, z) :: fs, h => by
    simp only [List.map_cons, List.contains_cons, Bool.or_eq_false_iff] at h
    unfold putF
    rw [putF_new h.2]
    have e : ¬ g = f := fun e => by
      rw [e] at h
      simp at h
    simp [e]
end
/-- a new object x while its fields are being set -/
structure InitAt (S : List Addr) (x C dx : Addr) (H0 H : Hp) (gs : List (Str × V)) (fs : List (Str × PyData)) : Prop where
  fr : Fr [x] H0 H
  hx : H x = some (.ins C dx gs)
  dq : DqN S H gs fs
  al : Al S H
  mem : x ∈ S
section
variable {K : PySem.W.Frag} {S : List Addr} {x C dx : Addr} {H0 H H' : Hp} {gs : List (Str × V)} {fs : List (Str × PyData)} {f : Str} {v : V} {d : PyData}
theorem InitAt.start (hx : H x = some (.ins C dx [])) (al : Al S H) (m : x ∈ S) : InitAt S x C dx H H [] [] := ⟨Fr.refl, hx, .nil, al, m⟩
theorem InitAt.same (I : InitAt S x C dx H0 H gs fs) (e : Same H H') : InitAt S x C dx H0 H' gs fs := ⟨I.fr.trans (Fr.same e), e _ _ I.hx, I.dq.fr (Fr.same e), I.al.same e, I.mem⟩
theorem InitAt.put (I : InitAt S x C dx H0 H gs fs) (hv : Dq S H v d) (f : Str) (hn : (gs.map Prod.fst).contains f = false) : InitAt S x C dx H0 (upd H x (.ins C dx (putF f v gs))) (gs ++ [(f, v)]) (fs ++ [(f, d)]) := by
  rw [putF_new hn]
  have u : Fr S H (upd H x (.ins C dx (gs ++ [(f, v)]))) := Fr.upd I.mem
  refine ⟨I.fr.trans (Fr.upd (by simp)), upd_same, (I.dq.fr u).app (.cons (hv.fr u) .nil), ?_, I.mem⟩
  intro b m q
  by_cases hb : b = x
  · rw [hb, upd_same] at q; cases q
  · rw [upd_ne hb] at q; exact I.al b m q
theorem InitAt.dqO (I : InitAt S x C dx H0 H gs fs) (h : Dq S H0 v d) : Dq S H v d := h.fr (I.fr.mono fun a m => by rw [show a = x by simpa using m]; exact I.mem)
theorem InitAt.deO (I : InitAt S x C dx H0 H gs fs) (h : De K S H0 v d) : De K S H v d := h.fr (I.fr.mono fun a m => by rw [show a = x by simpa using m]; exact I.mem)
theorem De.dq (h : De K S H v d) (n : d ≠ .tuple []) : Dq S H v d := by
  rcases h with h | ⟨e, _⟩
  · exact h
  · exact absurd e n
end
/-! ### sequences of data -/
def Sq1 (d : PyData) (L : List PyData) : Prop := sqI d = some L ∧ L.length < 1000
def Sq2 (d : PyData) (L : List (List PyData)) : Prop := ∃ xs, sqI d = some xs ∧ xs.map sqI = L.map some ∧ L.length < 1000
def Sq3 (d : PyData) (L : List (List (List PyData))) : Prop := ∃ xs, sqI d = some xs ∧ xs.length = L.length ∧ (∀ (i : Nat) x l, xs[i]? = some x → L[i]? = some l → Sq2 x l) ∧ L.length < 1000
def ltD (L : List (List PyData)) : PyData := .list (L.map .tuple)
def llD (L : List (List PyData)) : PyData := .list (L.map .list)
def ouD3 (L : List (List (List PyData))) : PyData := .list (L.map ltD)
section
variable {L : List (List PyData)} {M : List (List (List PyData))} {l : List PyData}
theorem Sq1.ls (h : l.length < 1000) : Sq1 (.list l) l := ⟨rfl, h⟩
theorem Sq1.e : Sq1 (.tuple []) [] := ⟨rfl, by decide⟩
theorem Sq2.lt (h : L.length < 1000) : Sq2 (ltD L) L := ⟨_, rfl, by rw [List.map_map]; rfl, h⟩
theorem Sq2.ll (h : L.length < 1000) : Sq2 (llD L) L := ⟨_, rfl, by rw [List.map_map]; rfl, h⟩
theorem Sq2.e : Sq2 (.tuple []) [] := ⟨[], rfl, rfl, by decide⟩
theorem Sq3.ou (h : M.length < 1000) (k : ∀ c, c ∈ M → c.length < 1000) : Sq3 (ouD3 M) M := by
  refine ⟨_, rfl, by rw [List.length_map], fun i x l e1 e2 => ?_, h⟩
  rw [List.getElem?_map, e2] at e1
  cases e1
  exact Sq2.lt (k l (List.mem_of_getElem? e2))
theorem Sq3.e : Sq3 (.tuple []) [] := ⟨[], rfl, rfl, fun i x l e1 _ => by simp at e1, by decide⟩
theorem Sq3.le : Sq3 (.list []) [] := ⟨[], rfl, rfl, fun i x l e1 _ => by simp at e1, by decide⟩
theorem Sq2.le : Sq2 (.list []) [] := ⟨[], rfl, rfl, by decide⟩
theorem fm_ltA {α : Type} {L : List α} {f : α → PyData} {n : Nat} (h : n = L.length) : (List.range n).filterMap (fun i => (L[i]?).map f) = L.map f := by
  subst h
  have e : (fun i : Nat => (L[i]?).map f) = fun i => (L.map f)[i]? := funext fun i => by rw [List.getElem?_map]
  rw [e]
  have := fm_map (es := L.map f) (rs := L.map f) rfl
  rwa [List.length_map] at this
theorem sq2_at {xs : List PyData} {i : Nat} {e : PyData} (h : xs.map sqI = L.map some) (he : xs[i]? = some e) : ∃ l, L[i]? = some l ∧ sqI e = some l := by
  have : (xs.map sqI)[i]? = (L.map some)[i]? := by rw [h]
  rw [List.getElem?_map, List.getElem?_map, he] at this
  cases hl : L[i]? with
  | none => rw [hl] at this; cases this
  | some l => rw [hl] at this; exact ⟨l, rfl, by simpa using this⟩
theorem sq2_len {xs : List PyData} (h : xs.map sqI = L.map some) : xs.length = L.length := by
  have := congrArg List.length h
  simpa using this
end
def fTof (ds : List PyData) (d : PyData) : Prop := ∃ r L, ds = [r] ∧ Sq2 r L ∧ d = ltD L
theorem DqN.consE {S : List Addr} {H : Hp} {n : Str} {d : PyData} {fs : List (Str × V)} {ds : List (Str × PyData)} (h : DqN S H fs ((n, d) :: ds)) : ∃ v gs, fs = (n, v) :: gs ∧ Dq S H v d ∧ DqN S H gs ds := by
  cases h with
  | cons h r => exact ⟨_, _, rfl, h, r⟩
theorem DqN.nilE {S : List Addr} {H : Hp} {fs : List (Str × V)} (h : DqN S H fs []) : fs = [] := by cases h; rfl
theorem lstOf_de {K : PySem.W.Frag} {S : List Addr} {H : Hp} {v : V} {e : PyData} {l : List PyData} {Q : VK} (al : Al S H) (h : De K S H v e) (hl : sqI e = some l) (q : ∀ p H', Same H H' → Dq S H' (.ref p) (.list l) → Q (.ref p) H') : rLstOf K [v] H Q := by
  obtain ⟨a, zs, h | h⟩ := h.seq hl
  · obtain ⟨rfl, hA, hs⟩ := h
    exact ⟨a, zs, rfl, .inl (hs _ Fr.refl), fun p hp => q p _ (Fl.Same.new hp) (Dq.newL al hp hA)⟩
  · obtain ⟨a, zs, rfl, hA, hs⟩ := h
    exact ⟨a, zs, rfl, .inr (hs _ Fr.refl), fun p hp => q p _ (Fl.Same.new hp) (Dq.newL al hp hA)⟩
theorem lstOf_app {K : PySem.W.Frag} {S : List Addr} {H : Hp} {v : V} {e : PyData} {l : List PyData} {Q : VK} (al : Al S H) (h : Dq S H v e) (hl : sqI e = some l) (q : ∀ p H', Same H H' → Dq S H' (.ref p) (.list l) → Q (.ref p) H') : rLstOf K [v] H Q := lstOf_de al (.inl h) hl q
theorem g_make {C : Addr} {n m : Nat} {sp : Sp} {gV : List V → List V → List V} {E : XK} {t tk : TA} {σ : L2.St} {H : Hp} {Q : VK}
    (h : t σ H fun vs H1 => tk σ H1 fun zs H2 => vs.length = n ∧ zs.length = m ∧ ∀ x dx, H2 x = none → H2 dx = none → dx ≠ x → sp (gV (.ref x :: vs) zs) (upd (upd H2 dx (.own x)) x (.ins C dx [])) (fun v H3 => v = .non ∧ Q (.ref x) H3) E) : tMakeK C n m sp gV E t tk σ H Q := h
theorem g_mk {A B C : Prop} (h1 : A) (h2 : B) (h3 : C) : A ∧ B ∧ C := ⟨h1, h2, h3⟩
/-! ### the parts of a font -/
structure GlR where
  adv : PyData
  outl : List (List (List PyData))
  parts : List (List PyData)
  anch : List (List PyData)
  mark : PyData
  deltas : List (List PyData)
  hint : List (List PyData)
structure RuR where
  inside : List (List PyData)
  back : List (List PyData)
  ahead : List (List PyData)
  out : List PyData
  calls : List (List PyData)
  extra : PyData
structure LkR where
  kind : PyData
  rules : List RuR
  ign : PyData
def GlR.F (g : GlR) : List (Str × PyData) := [("advance", g.adv), ("outline", ouD3 g.outl), ("parts", ltD g.parts), ("anchors", ltD g.anch), ("mark", g.mark), ("deltas", ltD g.deltas), ("hint", ltD g.hint)]
def RuR.F (r : RuR) : List (Str × PyData) := [("inside", llD r.inside), ("back", llD r.back), ("ahead", llD r.ahead), ("out", .list r.out), ("calls", ltD r.calls), ("extra", r.extra)]
def LkR.F (C : Addr) (k : LkR) : List (Str × PyData) := [("kind", k.kind), ("rules", .list (k.rules.map fun r => insD C r.F)), ("ignore", k.ign)]
structure GlR.ok (g : GlR) : Prop where
  a : g.adv ≠ .tuple []
  m : g.mark ≠ .tuple []
  o : g.outl.length < 1000
  c : ∀ c, c ∈ g.outl → c.length < 1000
  p : g.parts.length < 1000
  n : g.anch.length < 1000
  d : g.deltas.length < 1000
  h : g.hint.length < 1000
structure RuR.ok (x : RuR) : Prop where
  i : x.inside.length < 1000
  b : x.back.length < 1000
  a : x.ahead.length < 1000
  o : x.out.length < 1000
  c : x.calls.length < 1000
  e : x.extra ≠ .tuple []
structure LkR.ok (x : LkR) : Prop where
  k : x.kind ≠ .tuple []
  r : x.rules.length < 1000
  ro : ∀ r, r ∈ x.rules → RuR.ok r
  g : x.ign ≠ .tuple []
/-- what Glyph is called with -/
def fGl (ds : List PyData) (fs : List (Str × PyData)) : Prop := ∃ (o p n d h : PyData) (g : GlR), ds = [g.adv, o, p, n, g.mark, d, h] ∧ g.ok ∧ Sq3 o g.outl ∧ Sq2 p g.parts ∧ Sq2 n g.anch ∧ Sq2 d g.deltas ∧ Sq2 h g.hint ∧ fs = g.F
def fRu (ds : List PyData) (fs : List (Str × PyData)) : Prop := ∃ (i b a o c : PyData) (r : RuR), ds = [i, b, a, o, c, r.extra] ∧ r.ok ∧ Sq2 i r.inside ∧ Sq2 b r.back ∧ Sq2 a r.ahead ∧ Sq1 o r.out ∧ Sq2 c r.calls ∧ fs = r.F
def fLk (CR : Addr) (ds : List PyData) (fs : List (Str × PyData)) : Prop := ∃ (k : LkR) (rs : PyData), ds = [k.kind, rs, k.ign] ∧ k.ok ∧ sqI rs = some (k.rules.map fun r => insD CR r.F) ∧ fs = k.F CR
def fCg (CG : Addr) (ds : List PyData) (d : PyData) : Prop := ∃ g : GlR, g.ok ∧ ds = [insD CG g.F] ∧ d = insD CG g.F
def fCr (CR : Addr) (ds : List PyData) (d : PyData) : Prop := ∃ r : RuR, r.ok ∧ ds = [insD CR r.F] ∧ d = insD CR r.F
def fCl (CR CL : Addr) (ds : List PyData) (d : PyData) : Prop := ∃ k : LkR, k.ok ∧ ds = [insD CL (k.F CR)] ∧ d = insD CL (k.F CR)
/-- lcs_done: a walk over items of one kind, each copied -/
theorem at_map {α : Type} {L : List α} {f : α → PyData} {i : Nat} {e : PyData} (h : (L.map f)[i]? = some e) : ∃ x, L[i]? = some x ∧ e = f x := by
  rw [List.getElem?_map] at h
  cases hl : L[i]? with
  | none => rw [hl] at h; cases h
  | some x => rw [hl] at h; exact ⟨x, rfl, by simpa using h.symm⟩
/-! ### whole fonts -/
structure FoR where
  unit : PyData
  glyphs : List GlR
  chars : List (List PyData)
  lookups : List LkR
  features : List (PyData × List PyData)
  axes : List (List PyData)
  regions : List (List (List PyData))
  functions : List (List (List PyData))
  presets : List PyData
structure Cs where
  G : Addr
  R : Addr
  L : Addr
  F : Addr
def glD (c : Cs) (g : GlR) : PyData := insD c.G g.F
def lkD (c : Cs) (k : LkR) : PyData := insD c.L (k.F c.R)
def feD (f : PyData × List PyData) : PyData := .tuple [f.1, .list f.2]
def FoR.F (c : Cs) (f : FoR) : List (Str × PyData) := [("unit", f.unit), ("glyphs", .list (f.glyphs.map (glD c))), ("chars", ltD f.chars), ("lookups", .list (f.lookups.map (lkD c))), ("features", .list (f.features.map feD)), ("axes", ltD f.axes), ("regions", ouD3 f.regions), ("functions", ouD3 f.functions), ("presets", .list f.presets)]
def foD (c : Cs) (f : FoR) : PyData := insD c.F (f.F c)
structure FoR.ok (x : FoR) : Prop where
  u : x.unit ≠ .tuple []
  g : x.glyphs.length < 1000
  go : ∀ g, g ∈ x.glyphs → GlR.ok g
  c : x.chars.length < 1000
  l : x.lookups.length < 1000
  lo : ∀ k, k ∈ x.lookups → LkR.ok k
  f : x.features.length < 1000
  a : x.axes.length < 1000
  r : x.regions.length < 1000
  n : x.functions.length < 1000
  p : x.presets.length < 1000
/-- the pairs of features as they are handed in: a pair of a name and a list or tuple -/
def SqF (d : PyData) (L : List (PyData × List PyData)) : Prop := ∃ xs, sqI d = some xs ∧ xs.length = L.length ∧ (∀ (i : Nat) x (l : PyData × List PyData), xs[i]? = some x → L[i]? = some l → ∃ m, x = .tuple [l.1, m] ∧ Sq1 m l.2) ∧ L.length < 1000
theorem SqF.e : SqF (.tuple []) [] := ⟨[], rfl, rfl, fun i x l e1 _ => by simp at e1, by decide⟩
def fFf (c : Cs) (V : FoR → Prop) (ds : List PyData) (d : PyData) : Prop := ∃ f : FoR, V f ∧ ds = [foD c f] ∧ d = .none
def fFo (c : Cs) (V : FoR → Prop) (ds : List PyData) (fs : List (Str × PyData)) : Prop := ∃ (gs ch ls fe ax re fn pr : PyData) (f : FoR), ds = [f.unit, gs, ch, ls, fe, ax, re, fn, pr] ∧ f.ok ∧ V f ∧
  sqI gs = some (f.glyphs.map (glD c)) ∧ Sq2 ch f.chars ∧ sqI ls = some (f.lookups.map (lkD c)) ∧ SqF fe f.features ∧ Sq2 ax f.axes ∧ Sq3 re f.regions ∧ Sq3 fn f.functions ∧ Sq1 pr f.presets ∧ fs = f.F c
theorem InitAt.fin {S : List Addr} {x C dx : Addr} {H0 H : Hp} {gs : List (Str × V)} {fs : List (Str × PyData)} (I : InitAt S x C dx H0 H gs fs) : Al (S.filter fun a => a ≠ x) H ∧ Dq (S.filter fun a => a ≠ x) H (.ref x) (insD C fs) := by
  refine ⟨fun a m => I.al a ((List.mem_filter.mp m).1), Dq.insI (by simp) I.hx (I.dq.mono fun a m => (List.mem_filter.mp m).1)⟩
end Fl

set_option Elab.async false
set_option linter.all false
set_option maxRecDepth 100000
set_option maxHeartbeats 4000000
set_option exponentiation.threshold 20000
/-! readings for the checks of a font; fonts in numbers -/
namespace Fl
open PySem PySem.Spec PyProof.Rows L2
section
variable {X : Cx} {K : PySem.W.Frag} {σ : L2.St} {H : Hp} {Q : VK}
theorem peOrT {a b : Expr} {ta tb : TE} {rest : List Expr} {pos : Pos} (e : X.K = K) (h1 : PE X a ta) (h2 : PE X (.BoolOp .Or (b :: rest) pos) tb) : PE X (.BoolOp .Or (a :: b :: rest) pos) (tOrT K ta tb) := by subst e; exact pe_orT h1 h2
theorem g_orT {ta tb : TE} (h : ta σ H fun x H1 => ∃ k, TruV K x H1 k ∧ if k = true then Q x H1 else tb σ H1 Q) : tOrT K ta tb σ H Q := h
theorem g_truN {Z : Bool → Prop} (q : Z false) : ∃ k, TruV K .non H k ∧ Z k := ⟨false, rfl, q⟩
theorem g_chain {r r' : R2} {ta tb tc : TE} (h : ta σ H fun x H1 => tb σ H1 fun y H2 => r x y H2 fun z H3 => ∃ k, z = .bl k ∧ (if k = true then tc σ H3 fun w' H4 => r' y w' H4 Q else Q (.bl false) H3)) : tChain r r' ta tb tc σ H Q := h
theorem g_yesB {p : Prop} [Decidable p] {A B : Prop} (h : p) (q : A) : if decide p = true then A else B := by rw [if_pos (by simpa using h)]; exact q
theorem g_noB {p : Prop} [Decidable p] {A B : Prop} (h : ¬ p) (q : B) : if decide p = true then A else B := by rw [if_neg (by simpa using h)]; exact q
theorem g_nB {p : Prop} [Decidable p] {A B : Prop} (h : p) (q : B) : if (!decide p) = true then A else B := by rw [decide_eq_true h]; simpa using q
theorem g_inT {neg : Bool} {a : Addr} {xs : List V} {x : V} {b : Bool} (h : SqT K H a xs) (f1 : flatV x = true) (f2 : xs.all flatV = true) (e : (if neg = true then !inV x xs else inV x xs) = b) (q : Q (.bl b) H) : rIn K neg x (.ref a) H Q := ⟨a, xs, rfl, .inr h, f1, f2, by rw [e]; exact q⟩
theorem g_tru0n {a : Addr} {xs : List V} {Z : Bool → Prop} (h : SqL K H a xs) (e : xs.length = 0) (q : Z false) : ∃ k, TruV K (.ref a) H k ∧ Z k := by
  cases xs with
  | nil => exact ⟨_, .inl ⟨_, h, rfl⟩, q⟩
  | cons _ _ => cases e
theorem g_asg2 {te : TE} {g : TG} {D : Ends} (h : te σ H fun x H1 => g x σ H1 D.nx) : tAsg te g D σ H := h
theorem g_kd {w : World} {p : Addr} {z : Str} {v : V} (h : KDct K w p z v) (q : Q v H) : rIxD K w (.ref p) (.str z) H Q := ⟨p, z, v, rfl, rfl, h, q⟩
theorem g_neS {x y : Str} (q : Q (.bl (!decide (x = y))) H) : rNe (.str x) (.str y) H Q := ⟨rfl, by
  have e : decide (V.str x = V.str y) = decide (x = y) := by simp
  rw [e]
  exact q⟩
theorem g_nkd {d : Addr} {z : Str} {Z : VK} {u0 : Value} (h : PySem.W.nsIn K d z = some (some u0)) (q : Z (V.bl false) H) : ∃ z' r, V.str z = V.str z' ∧ V.ref d = V.ref d ∧ PySem.W.nsIn K d z' = some r ∧ Z (V.bl (!r.isSome)) H := ⟨z, _, rfl, rfl, h, q⟩
theorem g_noNB {p : Prop} [Decidable p] {A B : Prop} (h : ¬ p) (q : A) : if (!decide p) = true then A else B := by rw [decide_eq_false h]; simpa using q
theorem piEnum {e : Expr} {ta : TA} {p pos tpos : Pos} {elts : List Expr} {kk : Nat} (eK : X.K = K) (h1 : Gl X "enumerate") (h2 : X.mg "enumerate" = none) (h3 : PA X [e] ta) (h4 : starEach [e] X.env = [(false, eval e X.env)] := by rfl) :
    PI X (.Tuple elts kk tpos) (.Call (.Name "enumerate" p) [e] [] pos) (iEnum K ta) := by subst eK; exact pi_enum h1 h2 h3 h4
theorem g_enum {ta : TE} {R : It → Hp → Prop} (h : ta σ H fun x H1 => ∃ a xs, [x] = [V.ref a] ∧ SqL K H1 a xs ∧ R (Ite K a) H1) : iEnum K (tCons ta tNil) σ H R := h
theorem g_enE {a : Addr} {xs : List V} {Z : Addr → Prop} (h : SqL K H a xs) (q : Z a) : ∃ c zs, [V.ref a] = [V.ref c] ∧ SqL K H c zs ∧ Z c := ⟨a, xs, rfl, h, q⟩
theorem forK_e {a : Addr} {xs : List V} {g : TG} {tb : TS} {D : Ends} (Pv : Nat → L2.St → Hp → Prop) (h0 : Pv 0 σ H) (hl : ∀ i σ H, i ≤ xs.length → Pv i σ H → SqL K H a xs)
    (hs : ∀ (i : Nat) (x : V) (T : Addr) (σ : L2.St) (H : Hp), xs[i]? = some x → Pv i σ H → H T = none → g (.ref T) σ (upd H T (.tup [.int (i : Int), x])) fun σ2 H2 => tb { D with nx := Pv (i + 1), ct := Pv (i + 1), bk := D.nx } σ2 H2) (hd : ∀ σ H, Pv xs.length σ H → D.nx σ H) : forK (Ite K a) g tb D σ H := by
  refine ⟨fun i m σ H => m = xs.length - i ∧ i ≤ xs.length ∧ Pv i σ H, ⟨xs.length, rfl, Nat.zero_le _, h0⟩, fun i m σ H h => ?_⟩
  obtain ⟨rfl, hi, p⟩ := h
  have q := hl i σ H hi p
  by_cases hlt : i < xs.length
  · refine .inr ⟨⟨xs, xs[i], q, by simp [hlt]⟩, Pv (i + 1), fun σ' H' p' => ⟨xs.length - (i + 1), by omega, rfl, hlt, p'⟩, fun x H' y => ?_⟩
    obtain ⟨T, z, rfl, hT, rfl, y⟩ := y
    exact hs i z T σ H (y xs q) p hT
  · have e : i = xs.length := by omega
    subst e
    exact .inl ⟨⟨xs, q, Nat.le_refl _⟩, hd σ H p⟩
theorem clAll (e : X.K = K) (hc : X.calm = true) : CallR X (.builtin "all") (rAll K) := by subst e; exact cr_all hc
theorem g_allL {a : Addr} {bs : List Bool} (h : SqL K H a (bs.map V.bl)) (q : Q (.bl (bs.all id)) H) : rAll K [.ref a] H Q := ⟨a, bs, rfl, h, q⟩
def rKd (d : Addr) (K : PySem.W.Frag) (neg : Bool) : R2 := fun x y H Q => ∃ z r, x = V.str z ∧ y = V.ref d ∧ PySem.W.nsIn K d z = some r ∧ Q (V.bl (if neg then !r.isSome else r.isSome)) H
end
/-! ### objects taken apart -/
section
variable {S : List Addr} {H : Hp} {v : V} {c : Cs}
theorem glE {g : GlR} (h : Dq S H v (glD c g)) : ∃ a dx v1 v2 v3 v4 v5 v6 v7, v = .ref a ∧ a ∉ S ∧ H a = some (.ins c.G dx [("advance", v1), ("outline", v2), ("parts", v3), ("anchors", v4), ("mark", v5), ("deltas", v6), ("hint", v7)]) ∧
    Dq S H v1 g.adv ∧ Dq S H v2 (ouD3 g.outl) ∧ Dq S H v3 (ltD g.parts) ∧ Dq S H v4 (ltD g.anch) ∧ Dq S H v5 g.mark ∧ Dq S H v6 (ltD g.deltas) ∧ Dq S H v7 (ltD g.hint) := by
  obtain ⟨a, dx, fs, rfl, ha, hA, hN⟩ := h.insE
  obtain ⟨v1, fs, rfl, h1, hN⟩ := hN.consE
  obtain ⟨v2, fs, rfl, h2, hN⟩ := hN.consE
  obtain ⟨v3, fs, rfl, h3, hN⟩ := hN.consE
  obtain ⟨v4, fs, rfl, h4, hN⟩ := hN.consE
  obtain ⟨v5, fs, rfl, h5, hN⟩ := hN.consE
  obtain ⟨v6, fs, rfl, h6, hN⟩ := hN.consE
  obtain ⟨v7, fs, rfl, h7, hN⟩ := hN.consE
  cases hN.nilE
  exact ⟨a, dx, v1, v2, v3, v4, v5, v6, v7, rfl, ha, hA, h1, h2, h3, h4, h5, h6, h7⟩
theorem ruE {C : Addr} {r : RuR} (h : Dq S H v (insD C r.F)) : ∃ a dx v1 v2 v3 v4 v5 v6, v = .ref a ∧ a ∉ S ∧ H a = some (.ins C dx [("inside", v1), ("back", v2), ("ahead", v3), ("out", v4), ("calls", v5), ("extra", v6)]) ∧
    Dq S H v1 (llD r.inside) ∧ Dq S H v2 (llD r.back) ∧ Dq S H v3 (llD r.ahead) ∧ Dq S H v4 (.list r.out) ∧ Dq S H v5 (ltD r.calls) ∧ Dq S H v6 r.extra := by
  obtain ⟨a, dx, fs, rfl, ha, hA, hN⟩ := h.insE
  obtain ⟨v1, fs, rfl, h1, hN⟩ := hN.consE
  obtain ⟨v2, fs, rfl, h2, hN⟩ := hN.consE
  obtain ⟨v3, fs, rfl, h3, hN⟩ := hN.consE
  obtain ⟨v4, fs, rfl, h4, hN⟩ := hN.consE
  obtain ⟨v5, fs, rfl, h5, hN⟩ := hN.consE
  obtain ⟨v6, fs, rfl, h6, hN⟩ := hN.consE
  cases hN.nilE
  exact ⟨a, dx, v1, v2, v3, v4, v5, v6, rfl, ha, hA, h1, h2, h3, h4, h5, h6⟩
theorem lkE {k : LkR} (h : Dq S H v (lkD c k)) : ∃ a dx v1 v2 v3, v = .ref a ∧ a ∉ S ∧ H a = some (.ins c.L dx [("kind", v1), ("rules", v2), ("ignore", v3)]) ∧
    Dq S H v1 k.kind ∧ Dq S H v2 (.list (k.rules.map fun r => insD c.R r.F)) ∧ Dq S H v3 k.ign := by
  obtain ⟨a, dx, fs, rfl, ha, hA, hN⟩ := h.insE
  obtain ⟨v1, fs, rfl, h1, hN⟩ := hN.consE
  obtain ⟨v2, fs, rfl, h2, hN⟩ := hN.consE
  obtain ⟨v3, fs, rfl, h3, hN⟩ := hN.consE
  cases hN.nilE
  exact ⟨a, dx, v1, v2, v3, rfl, ha, hA, h1, h2, h3⟩
theorem foE {f : FoR} (h : Dq S H v (foD c f)) : ∃ a dx v1 v2 v3 v4 v5 v6 v7 v8 v9, v = .ref a ∧ a ∉ S ∧ H a = some (.ins c.F dx [("unit", v1), ("glyphs", v2), ("chars", v3), ("lookups", v4), ("features", v5), ("axes", v6), ("regions", v7), ("functions", v8), ("presets", v9)]) ∧
    Dq S H v1 f.unit ∧ Dq S H v2 (.list (f.glyphs.map (glD c))) ∧ Dq S H v3 (ltD f.chars) ∧ Dq S H v4 (.list (f.lookups.map (lkD c))) ∧ Dq S H v5 (.list (f.features.map feD)) ∧ Dq S H v6 (ltD f.axes) ∧ Dq S H v7 (ouD3 f.regions) ∧ Dq S H v8 (ouD3 f.functions) ∧ Dq S H v9 (.list f.presets) := by
  obtain ⟨a, dx, fs, rfl, ha, hA, hN⟩ := h.insE
  obtain ⟨v1, fs, rfl, h1, hN⟩ := hN.consE
  obtain ⟨v2, fs, rfl, h2, hN⟩ := hN.consE
  obtain ⟨v3, fs, rfl, h3, hN⟩ := hN.consE
  obtain ⟨v4, fs, rfl, h4, hN⟩ := hN.consE
  obtain ⟨v5, fs, rfl, h5, hN⟩ := hN.consE
  obtain ⟨v6, fs, rfl, h6, hN⟩ := hN.consE
  obtain ⟨v7, fs, rfl, h7, hN⟩ := hN.consE
  obtain ⟨v8, fs, rfl, h8, hN⟩ := hN.consE
  obtain ⟨v9, fs, rfl, h9, hN⟩ := hN.consE
  cases hN.nilE
  exact ⟨a, dx, v1, v2, v3, v4, v5, v6, v7, v8, v9, rfl, ha, hA, h1, h2, h3, h4, h5, h6, h7, h8, h9⟩
/-- a list whose length alone matters -/
theorem lstN {f : α → PyData} {L : List α} (h : Dq S H v (.list (L.map f))) : ∃ a xs, v = .ref a ∧ H a = some (.lst xs) ∧ xs.length = L.length ∧ DqA S H xs (L.map f) := by
  obtain ⟨a, xs, rfl, _, q, r⟩ := h.lstE
  exact ⟨a, xs, rfl, q, by rw [r.len, List.length_map], r⟩
end
/-! ### rules and lookups in numbers -/
def iD (l : List Int) : List PyData := l.map .int
structure RuV where
  inside : List (List Int)
  back : List (List Int)
  ahead : List (List Int)
  out : List Int
  calls : List (Int × Int)
structure LkV where
  kind : Str
  rules : List RuV
  ign : Bool
structure GlV where
  adv : Int
  mark : Bool
def RuV.R (r : RuV) : RuR := ⟨r.inside.map iD, r.back.map iD, r.ahead.map iD, iD r.out, r.calls.map fun p => [.int p.1, .int p.2], .int 0⟩
def LkV.R (k : LkV) : LkR := ⟨.str k.kind, k.rules.map RuV.R, .bool k.ign⟩
def GlV.R (g : GlV) : GlR := ⟨.int g.adv, [], [], [], .bool g.mark, [], []⟩
structure FoV where
  glyphs : List GlV
  lks : List LkV
def FoV.R (f : FoV) : FoR := ⟨.int 100, f.glyphs.map GlV.R, [], f.lks.map LkV.R, [], [], [], [], []⟩
/-- the number before the i-th -/
def prv (l : List Int) : Nat → Int
  | 0 => -1
  | i + 1 => (l[i]?).getD (-1)
/-- a set of glyphs of a font of n glyphs -/
structure IsSet (n : Nat) (l : List Int) : Prop where
  ne : l ≠ []
  up : ∀ (i : Nat) g, l[i]? = some g → prv l i < g ∧ g < n
theorem IsSet.len {n : Nat} {l : List Int} (h : IsSet n l) : l.length ≤ n := by
  have : ∀ i, i ≤ l.length → (i : Int) - 1 ≤ prv l i := by
    intro i
    induction i with
    | zero => intro _; simp [prv]
    | succ i ih =>
      intro hi
      have h1 := (h.up i _ (List.getElem?_eq_getElem (by omega))).1
      have h2 := ih (by omega)
      have e : prv l (i + 1) = l[i]'(by omega) := by simp [prv, List.getElem?_eq_getElem (show i < l.length by omega)]
      omega
  have h1 := this l.length (Nat.le_refl _)
  cases hl : l.length with
  | zero => omega
  | succ m =>
    rw [hl] at h1
    have h2 := (h.up m _ (List.getElem?_eq_getElem (by omega))).2
    have e : prv l (m + 1) = l[m]'(by omega) := by simp [prv, List.getElem?_eq_getElem (show m < l.length by omega)]
    omega
/-- a font of such parts, as the laws make it -/
def kindsR : List Str := ["single", "multiple", "ligature", "chain", "reverse"]
structure RuV.Ok (n : Nat) (ks : List Str) (kind : Str) (r : RuV) : Prop where
  i : (kind = "single" ∨ kind = "multiple" ∨ kind = "reverse") → r.inside.length = 1
  i2 : kind = "ligature" → 2 ≤ r.inside.length
  i3 : 1 ≤ r.inside.length ∧ r.inside.length ≤ 4
  b : r.back.length ≤ 3
  a : r.ahead.length ≤ 3
  ba : ¬ (kind = "chain" ∨ kind = "reverse") → r.back = [] ∧ r.ahead = []
  s : ∀ c, c ∈ r.inside ++ r.back ++ r.ahead → IsSet n c
  o : r.out.length ≤ 8
  og : ∀ g, g ∈ r.out → 0 ≤ g ∧ g < n
  oc : kind = "chain" → r.out = []
  os : (kind = "single" ∨ kind = "reverse") → ∀ l, r.inside[0]? = some l → r.out.length = l.length
  ol : kind = "ligature" → r.out.length = 1
  c : kind ≠ "chain" → r.calls = []
  cu : ∀ (i : Nat) p, r.calls[i]? = some p → prv (r.calls.map Prod.fst) i < p.1 ∧ p.1 < r.inside.length ∧ 0 ≤ p.2 ∧ ∃ k, ks[p.2.toNat]? = some k ∧ (k = "single" ∨ k = "multiple")
structure LkV.Ok (n : Nat) (ks : List Str) (x : LkV) : Prop where
  k : x.kind ∈ kindsR
  r : x.rules.length ≤ 12
  ro : ∀ r, r ∈ x.rules → RuV.Ok n ks x.kind r
structure FoV.Ok (f : FoV) : Prop where
  g : 1 ≤ f.glyphs.length ∧ f.glyphs.length ≤ 60
  ga : ∀ g, g ∈ f.glyphs → 0 ≤ g.adv ∧ g.adv ≤ 16384
  l : f.lks.length ≤ 20
  lo : ∀ k, k ∈ f.lks → k.Ok f.glyphs.length (f.lks.map LkV.kind)
theorem RuV.R_in (r : RuV) : llD (r.R.inside ++ r.R.back ++ r.R.ahead) = .list ((r.inside ++ r.back ++ r.ahead).map fun l => .list (iD l)) := by
  unfold llD RuV.R
  simp only [← List.map_append, List.map_map]
  rfl
theorem truesL {α : Type} {S : List Addr} {H : Hp} : ∀ {L : List α} {vs : List V}, DqA S H vs (L.map fun _ => PyData.bool true) → vs = (L.map fun _ => true).map V.bl
  | [], _, h => by cases h; rfl
  | _ :: L, _, .cons h r => by
    cases h.blE
    rw [truesL r]
    rfl
theorem all_trues {α : Type} : ∀ {L : List α}, (L.map fun _ => true).all id = true
  | [] => rfl
  | _ :: L => by simp
theorem allD {α : Type} {K : PySem.W.Frag} {S : List Addr} {H : Hp} {v : V} {L : List α} {Q : VK} (h : Dq S H v (.list (L.map fun _ => PyData.bool true))) (q : Q (.bl true) H) : rAll K [v] H Q := by
  obtain ⟨a, xs, rfl, _, hx, hA⟩ := h.lstE
  obtain rfl := truesL hA
  refine g_allL (SqL.of hx) ?_
  rw [all_trues]
  exact q
structure FoK (f : FoR) (ks : List Str) : Prop where
  g : f.glyphs.length < 1000
  l : f.lookups.length < 1000
  k : ∀ (i : Nat) k, ks[i]? = some k → ∃ lk, f.lookups[i]? = some lk ∧ lk.kind = .str k
theorem boolsL {α : Type} {p : α → Bool} {S : List Addr} {H : Hp} : ∀ {L : List α} {vs : List V}, DqA S H vs (L.map fun x => PyData.bool (p x)) → vs = (L.map p).map V.bl
  | [], _, h => by cases h; rfl
  | _ :: L, _, .cons h r => by
    cases h.blE
    rw [boolsL r]
    rfl
theorem lcNil {S : List Addr} {H1 : Hp} {K : PySem.W.Frag} {g : TG} {tt : TT} {te : TE} {vs : List Nat} {σ : L2.St} {Q : VK} {a : Addr} (hS : Al S H1) (ha : Dq S H1 (.ref a) (.list [])) (q : ∀ D H, Same H1 H → Dq S H (.ref D) (.list []) → Q (.ref D) H) : lcK (Itl K a) g tt te vs σ H1 Q :=
  lcL (S := S) (es := []) (fun _ => none) hS ha (by decide) (fun D i x e H hD he => by simp at he) (fun D H s hD h => q D H s h)
theorem allE {K : PySem.W.Frag} {S : List Addr} {H : Hp} {v : V} {Q : VK} (h : Dq S H v (.list [])) (q : Q (.bl true) H) : rAll K [v] H Q := allD (L := ([] : List Unit)) h q
theorem no_has {P : Program} {w : World} {K : PySem.W.Frag} {mg : Str → Option Value} {base : Heap} {x : Str} {st : Stmt} {N ps : List Str} (D : DefIn K mg x st) (S : FnScope N ps (defScope st))
    (hb : ∀ (kV doc pm : Value) (an : Option Addr) (cdv ct : Value) (us : List Value), us.length = ps.length → bindArgs (PySem.W.fnOf x x (defArgs st) (defBody st) (defScope st) .none kV doc pm an cdv ct) ⟨us, []⟩ = pure (ps.zip us)) : Has P w K mg base 1 x ps (fun _ _ _ _ => False) :=
  has_of D S hb (fun _ _ _ _ h => h.elim) (fun _ _ _ _ _ _ _ _ _ _ h => h.elim)
/-- the dict of depths of glyphs without parts -/
def kv0 (n : Nat) : List (Key × V) := (List.range n).map fun k : Nat => (.inl (k : Int), .int 0)
theorem kv0_succ (n : Nat) : kv0 (n + 1) = kv0 n ++ [(.inl (n : Int), .int 0)] := by
  unfold kv0
  rw [List.range_succ, List.map_append]
  rfl
theorem kv0_len (n : Nat) : (kv0 n).length = n := by unfold kv0; simp
theorem kv0_none {n i : Nat} (h : n ≤ i) : valV (kv0 n) (.inl (i : Int)) = none := by
  unfold valV kv0
  rw [Option.map_eq_none_iff, List.find?_eq_none]
  intro x hx
  obtain ⟨k, hk, rfl⟩ := List.mem_map.mp hx
  have := List.mem_range.mp hk
  simp
  omega
theorem kv0_some {n i : Nat} (h : i < n) : ∃ v, valV (kv0 n) (.inl (i : Int)) = some v := by
  cases e : valV (kv0 n) (.inl (i : Int)) with
  | some v => exact ⟨v, rfl⟩
  | none =>
    exfalso
    unfold valV kv0 at e
    rw [Option.map_eq_none_iff, List.find?_eq_none] at e
    have := e (.inl (i : Int), .int 0) (List.mem_map.mpr ⟨i, List.mem_range.mpr h, rfl⟩)
    simp at this
theorem g_tB {t : TE} {σ : L2.St} {H : Hp} {Q : Bool → Hp → Prop} (h : t σ H fun x H1 => ∃ c, x = .bl c ∧ Q c H1) : tB t σ H Q := h
theorem g_dn {ty td : TE} {σ : L2.St} {H : Hp} {Q : VK} (h : ty σ H fun y H1 => td σ H1 fun x H2 => ∃ a o, x = .ref a ∧ DGet H2 a y o ∧ Q (.bl (!o.isSome)) H2) : tDNotIn ty td σ H Q := h
theorem g_dp {ty td tv : TE} {D : Ends} {σ : L2.St} {H : Hp} (h : tv σ H fun v H1 => td σ H1 fun x H2 => ty σ H2 fun y H3 => ∃ a H4, x = V.ref a ∧ DPut H3 a y v H4 ∧ D.nx σ H4) : sDPut td ty tv D σ H := h
theorem fm_some {n : Nat} : (List.range n).filterMap (fun j : Nat => some (PyData.int (j : Int))) = (List.range n).map fun j : Nat => PyData.int (j : Int) := by
  rw [← List.filterMap_eq_map]
  rfl
theorem fm_none {n : Nat} : (List.range n).filterMap (fun _ : Nat => (none : Option PyData)) = [] := by
  rw [List.filterMap_eq_nil_iff]
  intros
  rfl
theorem fnok_weak {P : Program} {w : World} {K : PySem.W.Frag} {mg : Str → Option Value} {base : Heap} {k : Nat} {f : Addr} {fd : FuncData} {ps : List Str} {sp sp' : Sp} (a : FnOk P w K mg base L2.CX0 k f fd ps sp) (h : ∀ vs H Q E, sp' vs H Q E → sp vs H Q E) : FnOk P w K mg base L2.CX0 k f fd ps sp' :=
  ⟨fun vs H Q E z => a.len vs H Q E (h _ _ _ _ z), fun A outer s H args us vs Q E r e b v z => a.run A outer s H args us vs Q E r e b v (h _ _ _ _ z)⟩
/-- a rule, a lookup as the laws hold them -/
def ruT (r : RuV) : PyData := .tuple [llD (r.inside.map iD), llD (r.back.map iD), llD (r.ahead.map iD), .list (iD r.out), ltD (r.calls.map fun p => [.int p.1, .int p.2])]
def lkT (k : LkV) : PyData := .tuple [.str k.kind, .list (k.rules.map ruT), .bool k.ign]
theorem RuV.Rok {n : Nat} {ks : List Str} {kind : Str} {r : RuV} (h : r.Ok n ks kind) (hn : n < 900) : r.R.ok := by
  have hc : r.calls.length < 1000 := by
    have h3 := h.i3.2
    have : ∀ i, i ≤ r.calls.length → (i : Int) - 1 ≤ prv (r.calls.map Prod.fst) i := by
      intro i
      induction i with
      | zero => intro _; simp [prv]
      | succ i ih =>
        intro hi
        have h1 := (h.cu i _ (List.getElem?_eq_getElem (by omega))).1
        have h2 := ih (by omega)
        have e : prv (r.calls.map Prod.fst) (i + 1) = (r.calls[i]'(by omega)).1 := by simp [prv, List.getElem?_eq_getElem (show i < r.calls.length by omega)]
        omega
    have h1 := this r.calls.length (Nat.le_refl _)
    cases hl : r.calls.length with
    | zero => omega
    | succ m =>
      rw [hl] at h1
      have h2 := (h.cu m _ (List.getElem?_eq_getElem (by omega))).2.1
      have e : prv (r.calls.map Prod.fst) (m + 1) = (r.calls[m]'(by omega)).1 := by simp [prv, List.getElem?_eq_getElem (show m < r.calls.length by omega)]
      omega
  have h3 := h.i3
  have hb := h.b
  have ha := h.a
  have ho := h.o
  refine ⟨?_, ?_, ?_, ?_, ?_, by show PyData.int 0 ≠ _; intro e; cases e⟩
  · show (r.inside.map iD).length < 1000; rw [List.length_map]; omega
  · show (r.back.map iD).length < 1000; rw [List.length_map]; omega
  · show (r.ahead.map iD).length < 1000; rw [List.length_map]; omega
  · show (r.out.map PyData.int).length < 1000; rw [List.length_map]; omega
  · show (r.calls.map _).length < 1000; rw [List.length_map]; omega
theorem LkV.Rok {n : Nat} {ks : List Str} {k : LkV} (h : k.Ok n ks) (hn : n < 900) : k.R.ok := by
  have := h.r
  refine ⟨(by intro e; cases e), ?_, fun r m => ?_, (by intro e; cases e)⟩
  · show (k.rules.map RuV.R).length < 1000; rw [List.length_map]; omega
  · obtain ⟨r', m', rfl⟩ := List.mem_map.mp m
    exact RuV.Rok (h.ro r' m') hn
theorem GlV.Rok {g : GlV} : g.R.ok := ⟨(by intro e; cases e), (by intro e; cases e), (show (0 : Nat) < 1000 by decide), (fun c m => nomatch m), (show (0 : Nat) < 1000 by decide), (show (0 : Nat) < 1000 by decide), (show (0 : Nat) < 1000 by decide), (show (0 : Nat) < 1000 by decide)⟩
theorem FoV.Rok {f : FoV} (h : f.Ok) : f.R.ok := by
  have hg := h.g
  have hl := h.l
  refine ⟨(by intro e; cases e), ?_, fun g m => ?_, (show (0 : Nat) < 1000 by decide), ?_, fun k m => ?_, (show (0 : Nat) < 1000 by decide), (show (0 : Nat) < 1000 by decide), (show (0 : Nat) < 1000 by decide), (show (0 : Nat) < 1000 by decide), (show (0 : Nat) < 1000 by decide)⟩
  · show (f.glyphs.map GlV.R).length < 1000; rw [List.length_map]; omega
  · obtain ⟨g', m', rfl⟩ := List.mem_map.mp m
    exact GlV.Rok
  · show (f.lks.map LkV.R).length < 1000; rw [List.length_map]; omega
  · obtain ⟨k', m', rfl⟩ := List.mem_map.mp m
    exact LkV.Rok (h.lo k' m') (by omega)
/-- the table of kinds -/
structure InsK (K : PySem.W.Frag) (w : World) (mg : Str → Option Value) : Prop where
  g : mg "INSIDE" = some (.ref (adr mg "INSIDE"))
  d : ∃ es n, KDict K w (adr mg "INSIDE") es n
  k : ∀ kind, kind ∈ kindsR → ∃ t lo hi, PySem.W.nsIn K (adr mg "INSIDE") kind = some (some (.ref t)) ∧ (∀ H : Hp, SqT K H t [.int lo, .int hi]) ∧ (kind, lo, hi) ∈ ([("single", 1, 1), ("multiple", 1, 1), ("ligature", 2, 4), ("chain", 1, 4), ("reverse", 1, 1)] : List (Str × Int × Int))
end Fl

set_option Elab.async false
set_option linter.all false
set_option maxRecDepth 100000
set_option maxHeartbeats 4000000
/-! draws: a list of integers, from whose end numbers are taken -/
namespace Fl
open PySem PySem.Spec PyProof.Rows L2
def Dw (d : Addr) (H : Hp) : Prop := ∃ zs : List Int, H d = some (.lst (zs.map V.int)) ∧ zs.length ≤ 10000
theorem Dw.hd {d : Addr} {H : Hp} (h : Dw d H) : H d ≠ none := by
  obtain ⟨zs, e, _⟩ := h
  rw [e]
  simp
theorem Dw.put {d D : Addr} {H : Hp} {o : HO} (h : Dw d H) (n : D ≠ d) : Dw d (upd H D o) := by
  obtain ⟨zs, e, b⟩ := h
  exact ⟨zs, by rw [upd_ne n.symm]; exact e, b⟩
theorem Dw.newH {d p : Addr} {H : Hp} {o : HO} (e : H p = none) (h : Dw d H) : Dw d (upd H p o) := h.put fun k => h.hd (k ▸ e)
theorem Dw.sm {d : Addr} {H H' : Hp} (s : Same H H') (h : Dw d H) : Dw d H' := by
  obtain ⟨zs, e, b⟩ := h
  exact ⟨zs, s _ _ e, b⟩
theorem Dw.fr {d : Addr} {H H' : Hp} {S : List Addr} (s : Fr S H H') (n : d ∉ S) (h : Dw d H) : Dw d H' := by
  obtain ⟨zs, e, b⟩ := h
  exact ⟨zs, s _ _ n e, b⟩
theorem Dw.ned {d p : Addr} {H : Hp} (e : H p = none) (h : Dw d H) : p ≠ d := fun k => h.hd (k ▸ e)
def spDws (K : PySem.W.Frag) : Sp := fun vs H Q _ => ∃ (a : Addr) (ns : List Int), vs = [.ref a] ∧ SqL K H a (ns.map V.int) ∧ ns.length ≤ 63 ∧ ∀ d H', Same H H' → H d = none → Dw d H' → Q (.ref d) H'
theorem dws_app {K : PySem.W.Frag} {a : Addr} {ns : List Int} {H : Hp} {Q : VK} {E : XK} (h : SqL K H a (ns.map V.int)) (hl : ns.length ≤ 63) (q : ∀ d H', Same H H' → H d = none → Dw d H' → Q (.ref d) H') : spDws K [.ref a] H Q E := ⟨a, ns, rfl, h, hl, q⟩
def spTk : Sp := fun vs H Q _ => ∃ (d : Addr) (m : Int), vs = [.ref d, .int m] ∧ Dw d H ∧ 0 < m ∧ ∀ v H', 0 ≤ v → v < m → Dw d H' → On d H H' → Q (.int v) H'
theorem tk_app {d : Addr} {m : Int} {H : Hp} {Q : VK} {E : XK} (h : Dw d H) (hm : 0 < m) (q : ∀ v H', 0 ≤ v → v < m → Dw d H' → On d H H' → Q (.int v) H') : spTk [.ref d, .int m] H Q E := ⟨d, m, rfl, h, hm, q⟩
theorem Same.updN {H H' : Hp} {D : Addr} {o : HO} (hD : H D = none) (h : Same H H') : Same H (upd H' D o) := fun b u e => by
  rw [upd_ne (fun k => by rw [k, hD] at e; cases e)]
  exact h b u e
theorem g_appB {l : Addr} {xs : List V} {y : V} {H : Hp} {Q : VK} (h : H l = some (.lst xs)) (hz : xs.length < 100000) (q : Q .non (upd H l (.lst (xs ++ [y])))) : rAppend (.ref l) [y] H Q := ⟨l, xs, y, rfl, rfl, h, Nat.lt_of_lt_of_le hz (by decide), q⟩
theorem g_bm0 {K : PySem.W.Frag} {T : String} {r : V → List V → Hp → VK → Prop} {to : TE} {σ : L2.St} {H : Hp} {Q : VK} (h : to σ H fun x H1 => tyV K T x H1 ∧ r x [] H1 Q) : tBM0 K T r to σ H Q := h
theorem g_pop {l : Addr} {xs : List V} {y : V} {H : Hp} {Q : VK} (h : H l = some (.lst xs)) (hy : xs[xs.length - 1]? = some y) (q : Q y (upd H l (.lst xs.dropLast))) : rPop (.ref l) [] H Q := ⟨l, xs, y, rfl, rfl, h, hy, q⟩
/-- more integers behind a list of integers -/
theorem ints_snoc {zs : List Int} {z : Int} : zs.map V.int ++ [V.int z] = (zs ++ [z]).map V.int := by simp
theorem picks {α : Type} {f : α → PyData} {Pr : α → Prop} : ∀ {rs : List PyData}, (∀ r, r ∈ rs → ∃ p, r = f p ∧ Pr p) → ∃ ps : List α, rs = ps.map f ∧ ∀ p, p ∈ ps → Pr p
  | [], _ => ⟨[], rfl, fun _ m => nomatch m⟩
  | r :: rs, h => by
    obtain ⟨p, e, hp⟩ := h r (by simp)
    subst e
    obtain ⟨ps, e, hps⟩ := picks (rs := rs) fun r m => h r (by simp [m])
    subst e
    exact ⟨p :: ps, rfl, fun q m => by
      rcases List.mem_cons.mp m with rfl | m
      · exact hp
      · exact hps q m⟩
section
variable {S : List Addr} {H1 : Hp} {K : PySem.W.Frag} {g : TG} {tt : TT} {te : TE} {vs : List Nat} {σ : L2.St} {Q : VK}
/-- [elt for i, x in enumerate(list) if test], nothing changed -/
theorem lcE {a : Addr} {xs : List V} (f : Nat → Option PyData) (hS : Al S H1) (ha : H1 a = some (.lst xs)) (hz : xs.length < 1000)
    (step : ∀ (D : Addr) (i : Nat) (x : V) (T : Addr) (H : Hp), H1 D = none → xs[i]? = some x → Same H1 H → Al (D :: S) H → H T = none →
      ∀ (R : V → Hp → Prop) (N : Hp → Prop), (∀ r y H4, f i = some r → Same (upd H T (.tup [.int (i : Nat), x])) H4 → Dq (D :: S) H4 y r → R y H4) → (f i = none → ∀ H4, Same (upd H T (.tup [.int (i : Nat), x])) H4 → N H4) →
      g (.ref T) (wipe σ vs) (upd H T (.tup [.int (i : Nat), x])) fun σ2 H2 => wipe σ2 vs = wipe σ vs ∧ tt σ2 H2 fun b H3 => if b = true then te σ2 H3 R else N H3)
    (q : ∀ (D : Addr) (H : Hp), Same H1 H → H1 D = none → Dq S H (.ref D) (.list ((List.range xs.length).filterMap f)) → Q (.ref D) H) :
    lcK (Ite K a) g tt te vs σ H1 Q := by
  unfold lcK
  intro D hD
  have hDa : a ≠ D := fun e => by rw [e, hD] at ha; cases ha
  refine lc_it (walk_enum (xs := xs)) (CompAt S H1 D f) (CompAt.zero hD) ?_ ?_ ?_
  · intro i H _ h
    exact SqL.of (h.fr a _ (by simpa using hDa) ha)
  · intro i x H H' hi h ⟨T, y, z, e1, hT, e2, e3, e4⟩
    subst e1 e2
    cases e3
    have hsm : Same H1 H := sm_of hD h.fr
    exact step D i z T H hD e4 hsm (h.al hS hD) hT _ _ (fun r y H4 er s d => h.put (by omega) er ((Fl.Same.new hT).trans s) d) fun en H4 s => (h.same ((Fl.Same.new hT).trans s)).skip en
  · intro H h
    exact q D H (sm_of hD h.fr) hD (h.fin hS hD)
/-- [test for x in dict.values()] -/
theorem lcVT {d : Addr} {od : Obj} {kvs : List (Key × V)} {j : Nat} (p : Nat → Bool) (hd : H1 d = some (.frz od (.dK kvs))) (hz : kvs.length < 1000)
    (step : ∀ (D : Addr) (i : Nat) (k : Key) (x : V) (H : Hp), H1 D = none → kvs[i]? = some (k, x) → Same H1 H → ∀ (R : V → Hp → Prop), R (.bl (p i)) H →
      wipe ((wipe σ vs).set j (some x)) vs = wipe σ vs ∧ te ((wipe σ vs).set j (some x)) H R)
    (q : ∀ (D : Addr) (H : Hp), Same H1 H → H1 D = none → H D = some (.lst (((List.range kvs.length).map p).map V.bl)) → Q (.ref D) H) :
    lcK (Itd d od kvs) (gName j) tYes te vs σ H1 Q := by
  unfold lcK
  intro D hD
  have hDd : d ≠ D := fun e => by rw [e, hD] at hd; cases hd
  refine lc_it (walk_values (kvs := kvs)) (fun i H => H D = some (.lst (((List.range i).map p).map V.bl)) ∧ Fr [D] H1 H) ⟨upd_same, Fr.same (Fl.Same.new hD)⟩ ?_ ?_ ?_
  · intro i H _ h
    exact h.2 d _ (by simpa using hDd) hd
  · intro i x H H' hi ⟨h1, h2⟩ ⟨e1, k, e2⟩
    subst e1
    have st := step D i k x H' hD e2 (sm_of hD h2) (fun y H4 => ∃ acc, H4 D = some (.lst acc) ∧ acc.length < sizeLine ∧ ((upd H4 D (.lst (acc ++ [y]))) D = some (.lst (((List.range (i + 1)).map p).map V.bl)) ∧ Fr [D] H1 (upd H4 D (.lst (acc ++ [y]))))) ?_
    · exact ⟨st.1, st.2⟩
    · refine ⟨_, h1, ?_, ?_, h2.trans (Fr.upd (by simp))⟩
      · have : (1000 : Nat) ≤ sizeLine := by decide
        rw [List.length_map, List.length_map, List.length_range]
        omega
      · rw [upd_same, List.range_succ, List.map_append, List.map_append]
        rfl
  · intro H ⟨h1, h2⟩
    exact q D H (sm_of hD h2) hD h1
end
theorem g_lockE {t : TE} {σ : L2.St} {H : Hp} {Q : VK} {d : Addr} {u : HO} (h : H d = some u) (m : Mut (some u)) (q : ∀ od, t σ (upd H d (.frz od u)) fun v H' => H' d = some (.frz od u) ∧ Q v (upd H' d u)) : tLockE t σ H Q := ⟨d, u, h, m, q⟩
theorem same_lock {H G : Hp} {d : Addr} {u w : HO} (h : H d = some u) (s : Same (upd H d w) G) : Same H (upd G d u) := fun b o e => by
  by_cases n : b = d
  · subst n
    rw [upd_same]
    rw [h] at e
    exact e
  · rw [upd_ne n]
    exact s b o (by rw [upd_ne n]; exact e)
theorem g_ivals {td : TE} {σ : L2.St} {H : Hp} {R : It → Hp → Prop} (h : td σ H fun x H1 => ∃ d o kvs, x = V.ref d ∧ H1 d = some (.frz o (.dK kvs)) ∧ R (Itd d o kvs) H1) : iVals td σ H R := h
theorem ixN_nat {n a : Nat} (h : a < n) : ixN n (a : Int) = some a := by
  unfold ixN
  simp [h]
theorem take_snoc {α : Type} {l : List α} {i : Nat} {x : α} (h : l[i]? = some x) : l.take (i + 1) = l.take i ++ [x] := by
  rw [List.take_add_one, h]
  rfl
end Fl

set_option maxRecDepth 100000
namespace Sx
open PySem PySem.Spec PyProof.Rows L2
/-! tables of sets: masks of any usual size, dummies -/
def orb (m : Nat) : Nat → Nat → List Nat
  | 0, _ => []
  | n + 1, x => x :: orb m n ((x * 5 + 1) % (m + 1))
theorem lcg_front (m x : Nat) : ∀ k, lcgI m ((x * 5 + 1) % (m + 1)) k = lcgI m x (k + 1)
  | 0 => rfl
  | k + 1 => by rw [show lcgI m ((x * 5 + 1) % (m + 1)) (k + 1) = (lcgI m ((x * 5 + 1) % (m + 1)) k * 5 + 1) % (m + 1) from rfl, lcg_front m x k]; rfl
theorem orb_mem (m j : Nat) : ∀ n x, j ∈ orb m n x → ∃ k, k < n ∧ lcgI m x k = j
  | 0, x, h => by cases h
  | n + 1, x, h => by
    rcases List.mem_cons.mp h with e | h
    · exact ⟨0, Nat.succ_pos _, e.symm⟩
    · obtain ⟨k, hk, e⟩ := orb_mem m j n _ h
      exact ⟨k + 1, Nat.succ_lt_succ hk, by rw [← lcg_front]; exact e⟩
theorem lcg_two (m x a : Nat) : ∀ k, lcgI m (lcgI m x a) k = lcgI m x (a + k)
  | 0 => rfl
  | k + 1 => by
    have e := lcg_two m x a k
    rw [← Nat.add_assoc]; show (lcgI m (lcgI m x a) k * 5 + 1) % (m + 1) = (lcgI m x (a + k) * 5 + 1) % (m + 1); rw [e]
/-- a mask whose ways come by every slot -/
structure MG (m : Nat) : Prop where
  all : ∀ i j, i ≤ m → j ≤ m → ∃ k, k ≤ m ∧ lcgI m i k = j
  odd : m % 2 = 1
  top : m ≤ 255
theorem mg_of {m : Nat} (h1 : ((List.range (m + 1)).all fun j => (orb m (m + 1) 0).contains j) = true) (h3 : lcgI m 0 (m + 1) = 0) (o : m % 2 = 1) (t : m ≤ 255) : MG m := by
  have at0 : ∀ j, j ≤ m → ∃ k, k ≤ m ∧ lcgI m 0 k = j := fun j hj => by
    have q := List.all_eq_true.mp h1 j (List.mem_range.mpr (Nat.lt_succ_of_le hj))
    obtain ⟨k, hk, e⟩ := orb_mem m j _ _ (List.contains_iff_mem.mp q)
    exact ⟨k, Nat.le_of_lt_succ hk, e⟩
  refine ⟨fun i j hi hj => ?_, o, t⟩
  obtain ⟨a, ha, ea⟩ := at0 i hi
  obtain ⟨b, hb, eb⟩ := at0 j hj
  subst ea
  by_cases c : a ≤ b
  · exact ⟨b - a, by omega, by rw [lcg_two, show a + (b - a) = b by omega]; exact eb⟩
  · refine ⟨b + (m + 1) - a, by omega, ?_⟩
    have e2 := lcg_two m 0 (m + 1) b
    rw [h3] at e2
    rw [lcg_two, show a + (b + (m + 1) - a) = m + 1 + b by omega, ← e2]; exact eb
theorem mg7 : MG 7 := mg_of (by decide +kernel) (by decide +kernel) (by decide) (by decide)
theorem mg15 : MG 15 := mg_of (by decide +kernel) (by decide +kernel) (by decide) (by decide)
theorem mg31 : MG 31 := mg_of (by decide +kernel) (by decide +kernel) (by decide) (by decide)
theorem mg63 : MG 63 := mg_of (by decide +kernel) (by decide +kernel) (by decide) (by decide)
theorem mg127 : MG 127 := mg_of (by decide +kernel) (by decide +kernel) (by decide) (by decide)
theorem mg255 : MG 255 := mg_of (by decide +kernel) (by decide +kernel) (by decide) (by decide)
theorem size_tab : ((List.range 256).all fun n => decide (n < SetTable.sizeAbove n) && [8, 16, 32, 64, 128, 256].contains (SetTable.sizeAbove n)) = true := by decide +kernel
theorem size_ok {n : Nat} (h : n < 256) : n < SetTable.sizeAbove n ∧ SetTable.sizeAbove n ≤ 256 ∧ MG (SetTable.sizeAbove n - 1) := by
  have q := List.all_eq_true.mp size_tab n (List.mem_range.mpr h)
  rw [Bool.and_eq_true, decide_eq_true_eq] at q
  refine ⟨q.1, ?_⟩
  have z := List.contains_iff_mem.mp q.2
  simp only [List.mem_cons, List.not_mem_nil, or_false] at z
  rcases z with e | e | e | e | e | e <;> rw [e]
  · exact ⟨by decide, mg7⟩
  · exact ⟨by decide, mg15⟩
  · exact ⟨by decide, mg31⟩
  · exact ⟨by decide, mg63⟩
  · exact ⟨by decide, mg127⟩
  · exact ⟨by decide, mg255⟩
section
variable {m : Nat}
theorem MG.run (G : MG m) (h : Int) {j : Nat} (hj : j ≤ m) : ∃ n, n ≤ m + 12 ∧ runI m (SetTable.bits h) n = j := by
  obtain ⟨k, hk, e⟩ := G.all _ j (runI_le m (SetTable.bits h) 12) hj
  refine ⟨12 + k, by omega, ?_⟩
  rw [runI_tail (bits_lt h), e]
theorem MG.meets (G : MG m) (h : Int) {j : Nat} (hj : j ≤ m) : ∃ k, k < 10 * SetTable.turns m ∧ way m h k = j := by
  obtain ⟨n, hn, e⟩ := G.run h hj
  obtain ⟨k, hk, q⟩ := run_nth m (SetTable.bits h) n
  refine ⟨k, ?_, ?_⟩
  · rw [show SetTable.turns m = m + 15 from rfl]; omega
  · rw [show way m h k = (runAt m (runI m (SetTable.bits h) n) (SetTable.bits h / 32 ^ n)).j from congrArg SetTable.Probe.j q]; exact e
theorem way_in (m : Nat) (h : Int) (k : Nat) : way m h k ≤ m := by
  have l : SetTable.bits h % (m + 1) ≤ m := Nat.le_of_lt_succ (Nat.mod_lt _ (Nat.succ_pos m))
  have b := runEnd_bd l
  have r := nth_in (m := m) k (runAt m (SetTable.bits h % (m + 1)) (SetTable.bits h)) (show SetTable.bits h % (m + 1) + (SetTable.runEnd m (SetTable.bits h % (m + 1)) - SetTable.bits h % (m + 1)) ≤ m by omega)
  exact Nat.le_trans (Nat.le_add_right _ _) r
/-- slots of a clean lay -/
theorem MG.free (G : MG m) (owner : Array (Option Nat)) (h : Int) {j : Nat} (hj : j ≤ m) (hf : oAt owner j = none) :
    ∃ K, SetTable.layClean.free m owner (SetTable.turns m) (SetTable.bits h % (m + 1)) (SetTable.bits h) = some (way m h K) ∧ oAt owner (way m h K) = none ∧ ∀ k, k < K → oAt owner (way m h k) ≠ none := by
  obtain ⟨n, hn, e⟩ := G.run h hj
  generalize hb : SetTable.bits h = b at e
  have hw : way m h (off m (b % (m + 1)) b n) = j := by
    subst hb; exact (congrArg SetTable.Probe.j (nth_off m n _ _)).trans ((congrArg (fun z => z.1) (itL_run m _ n)).trans e)
  obtain ⟨K, k1, k2, k3⟩ := st_least (p := fun k => oAt owner (way m h k) = none) _ (by show oAt owner (way m h (off m (b % (m + 1)) b n)) = none; rw [hw]; exact hf)
  refine ⟨K, ?_, k2, k3⟩
  subst hb
  refine free_spec m owner _ n _ _ K (by rw [show SetTable.turns m = m + 15 from rfl]; omega) k1 (fun k hk => ?_) (by rw [Option.isNone_iff_eq_none]; exact k2)
  rw [Bool.eq_false_iff]; intro z; exact k3 k hk (Option.isNone_iff_eq_none.mp z)
/-- one more is laid -/
theorem MG.own (G : MG m) {done : List Int} {owner : Array (Option Nat)} (W : Own m done owner) (hl : done.length ≤ m) (h : Int) :
    ∃ j, SetTable.layClean.free m owner (SetTable.turns m) (SetTable.bits h % (m + 1)) (SetTable.bits h) = some j ∧ Own m (done ++ [h]) (owner.setIfInBounds j (some done.length)) := by
  obtain ⟨ps, hps, hin⟩ := W.ps
  obtain ⟨j0, h0, hn0⟩ := st_missing ps (m + 1) (by omega)
  obtain ⟨K, e1, e2, e3⟩ := G.free owner h (Nat.le_of_lt_succ h0) (Classical.byContradiction fun z => hn0 (hin j0 (Nat.le_of_lt_succ h0) z))
  have hJ := way_in m h K
  generalize hw : way m h K = J at *
  have hself : oAt (owner.setIfInBounds J (some done.length)) J = some done.length := oAt_set_self _ (by rw [W.sz]; omega)
  have oth : ∀ i, i ≠ J → oAt (owner.setIfInBounds J (some done.length)) i = oAt owner i := fun i hi => oAt_set_ne _ hi
  have mono : ∀ i, oAt owner i ≠ none → oAt (owner.setIfInBounds J (some done.length)) i ≠ none := fun i hi => by
    by_cases c : i = J
    · subst c; rw [hself]; nofun
    · rw [oth i c]; exact hi
  refine ⟨J, e1, ⟨by simp [W.sz], fun j k hj e => ?_, fun k hk => ?_, J :: ps, by simp [hps], fun j hj e => ?_⟩⟩
  · by_cases c : j = J
    · subst c; rw [hself] at e; cases e
      exact ⟨h, K, by simp, hw, fun k' hk' => mono _ (e3 k' hk')⟩
    · rw [oth j c] at e
      obtain ⟨h', K', a1, a2, a3⟩ := W.at_ j k hj e
      have a0 := (List.getElem?_eq_some_iff.mp a1).1
      exact ⟨h', K', by rw [List.getElem?_append_left a0]; exact a1, a2, fun k' hk' => mono _ (a3 k' hk')⟩
  · have hk' : k < done.length + 1 := by simpa using hk
    rcases Nat.lt_or_ge k done.length with c | c
    · obtain ⟨j, hj, e⟩ := W.all k c
      exact ⟨j, hj, by rw [oth j (fun z => by rw [z, e2] at e; cases e)]; exact e⟩
    · obtain rfl : k = done.length := by omega
      exact ⟨J, hJ, hself⟩
  · by_cases c : j = J
    · subst c; exact .head _
    · rw [oth j c] at e; exact .tail _ (hin j hj e)
theorem MG.fold (G : MG m) : ∀ (rest done : List Int) (owner : Array (Option Nat)), Own m done owner → done.length + rest.length ≤ m →
    ∃ ow, rest.foldl (stepF m) (some (owner, done.length)) = some (ow, (done ++ rest).length) ∧ Own m (done ++ rest) ow := by
  intro rest
  induction rest with
  | nil => intro done owner W _; exact ⟨owner, by simp, by simpa using W⟩
  | cons h rest ih =>
    intro done owner W hl
    have hl' : done.length + (rest.length + 1) ≤ m := hl
    obtain ⟨j, e, W'⟩ := G.own W (by omega) h
    obtain ⟨ow, f, W2⟩ := ih (done ++ [h]) _ W' (by simp; omega)
    refine ⟨ow, ?_, by simpa using W2⟩
    rw [List.foldl_cons, stepF_some e]
    simpa using f
theorem MG.clean (G : MG m) {hs : Array Int} (hn : hs.size ≤ m) : ∃ ow, SetTable.layClean m hs = some ow ∧ Own m hs.toList ow := by
  obtain ⟨ow, f, W⟩ := G.fold hs.toList [] _ (Own.init m) (by simpa using hn)
  refine ⟨ow, ?_, by simpa using W⟩
  rw [layClean_eq, show (some (Array.replicate (m + 1) (none : Option Nat), 0)) = some (Array.replicate (m + 1) none, ([] : List Int).length) from rfl, f]; rfl
end
/-- a slot that is not empty -/
def occ (t : SetTable) (j : Nat) : Prop := j ∈ t.place.toList ∨ j ∈ t.dummies.toList
structure TabG (t : SetTable) (hs : List Int) : Prop where
  rp : Ris t.place.toList
  rd : Ris t.dummies.toList
  dj : ∀ j, j ∈ t.place.toList → j ∉ t.dummies.toList
  sz : t.place.size = hs.length
  mg : MG t.mask
  bp : ∀ x, x ∈ t.place.toList → x ≤ t.mask
  rc : ∀ (i : Nat) (h : Int) (j : Nat), hs[i]? = some h → t.place.toList[i]? = some j → ∃ k, way t.mask h k = j ∧ ∀ k', k' < k → occ t (way t.mask h k')
/-- a table of the library is one -/
theorem TabG.ofOk {t : SetTable} {hs : List Int} (T : TabOk t hs) : TabG t hs := by
  refine ⟨T.ris, by rw [T.dm]; exact List.Pairwise.nil, fun j _ hd => (by rw [T.dm] at hd; cases hd), T.sz, ?_, T.bd, fun i h j a b => ?_⟩
  · rcases T.mok with e | e | e <;> rw [e]
    · exact mg7
    · exact mg31
    · exact mg127
  · obtain ⟨k, e, z⟩ := T.reach i h j a b
    exact ⟨k, e, fun k' hk => .inl (z k' hk)⟩
end Sx

set_option maxRecDepth 100000
namespace Sx
open PySem PySem.Spec PyProof.Rows L2
/-! what a table answers -/
theorem has_iff {xs : Array Nat} (r : Ris xs.toList) (j : Nat) : SetTable.has xs j = true ↔ j ∈ xs.toList := by
  obtain ⟨c1, c2, c3⟩ := below_cut r j
  unfold SetTable.has
  rw [beq_iff_eq]
  refine ⟨fun e => List.mem_of_getElem? (by rw [Array.getElem?_toList]; exact e), fun hm => ?_⟩
  obtain ⟨i, hi⟩ := List.mem_iff_getElem?.mp hm
  generalize SetTable.below xs j = p at c1 c2 c3 ⊢
  rcases Nat.lt_trichotomy i p with k | k | k
  · exact absurd (c2 i j hi k) (Nat.lt_irrefl _)
  · rw [← k, ← Array.getElem?_toList]; exact hi
  · have hp : p < xs.toList.length := Nat.lt_trans k (List.getElem?_eq_some_iff.mp hi).1
    have e := List.getElem?_eq_getElem hp
    exact absurd (Nat.lt_of_lt_of_le (ris_lt r e hi k) (c3 p _ e (Nat.le_refl _))) (Nat.lt_irrefl _)
theorem slot_of {t : SetTable} (rp : Ris t.place.toList) (rd : Ris t.dummies.toList) {j : Nat} (hn : j ∉ t.place.toList) : t.slot j = if j ∈ t.dummies.toList then .dummy else .empty := by
  have e : (t.place[SetTable.below t.place j]? == some j) = false := Bool.eq_false_iff.mpr fun z => hn ((has_iff rp j).mp z)
  unfold SetTable.slot
  simp only [e, Bool.false_eq_true, if_false]
  by_cases c : j ∈ t.dummies.toList
  · rw [if_pos c, if_pos ((has_iff rd j).mpr c)]
  · rw [if_neg c, if_neg fun z => c ((has_iff rd j).mp z)]
/-- the same probe with another dummy in mind -/
def dm (p : SetTable.Probe) (d : Option Nat) : SetTable.Probe := { p with dummy := d }
theorem adv_dm (m : Nat) (p : SetTable.Probe) (d : Option Nat) : adv m (dm p d) = dm (adv m p) d := by
  unfold adv dm
  split <;> rfl
abbrev st0 (m : Nat) (h : Int) : SetTable.Probe := runAt m (SetTable.bits h % (m + 1)) (SetTable.bits h)
/-- a dummy that stands on the way before the step K -/
def DP (t : SetTable) (h : Int) (K : Nat) (d : Option Nat) : Prop := ∀ x, d = some x → x ∈ t.dummies.toList ∧ ∃ k, k < K ∧ way t.mask h k = x
/-- what a probe says from the step c on -/
def PG (t : SetTable) (hashAt : Nat → Int) (h : Int) (K f c : Nat) (d : Option Nat) : Prop :=
    (∃ k i e, c ≤ k ∧ k < K ∧ t.place.toList[i]? = some (way t.mask h k) ∧ hashAt i = h ∧ DP t h K e ∧ (∀ k' i', c ≤ k' → k' < k → t.place.toList[i']? = some (way t.mask h k') → hashAt i' ≠ h) ∧
      SetTable.probe.go t hashAt h f (dm (nth t.mask (st0 t.mask h) c) d) = some (.candidate (way t.mask h k) i (dm (nth t.mask (st0 t.mask h) (k + 1)) e))) ∨
    (∃ e, DP t h K e ∧ (∀ k' i', c ≤ k' → k' < K → t.place.toList[i']? = some (way t.mask h k') → hashAt i' ≠ h) ∧
      SetTable.probe.go t hashAt h f (dm (nth t.mask (st0 t.mask h) c) d) = some (.empty (way t.mask h K) e))
theorem probeG {t : SetTable} (rp : Ris t.place.toList) (rd : Ris t.dummies.toList) (hashAt : Nat → Int) (h : Int) {K : Nat} (hK : ¬ occ t (way t.mask h K)) (hb : ∀ k, k < K → occ t (way t.mask h k)) :
    ∀ (f c : Nat) (d : Option Nat), c ≤ K → K - c < f → DP t h K d → PG t hashAt h K f c d := by
  intro f
  induction f with
  | zero => intro c d _ hf; exact absurd hf (Nat.not_lt_zero _)
  | succ f ih =>
    intro c d hc hf hd
    rcases Nat.lt_or_ge c K with hlt | hge
    · have more : ∀ d', DP t h K d' → (∀ i', t.place.toList[i']? = some (way t.mask h c) → hashAt i' ≠ h) → SetTable.probe.go t hashAt h (f + 1) (dm (nth t.mask (st0 t.mask h) c) d) = SetTable.probe.go t hashAt h f (dm (nth t.mask (st0 t.mask h) (c + 1)) d') → PG t hashAt h K (f + 1) c d := fun d' hd' no e => by
        rcases ih (c + 1) d' hlt (by omega) hd' with ⟨k, i, e2, a1, a2, a3, a4, a5, a6, a7⟩ | ⟨e2, a1, a2, a3⟩
        · refine Or.inl ⟨k, i, e2, by omega, a2, a3, a4, a5, fun k' i' q1 q2 q3 => ?_, e.trans a7⟩
          rcases Nat.lt_or_ge c k' with z | z
          · exact a6 k' i' z q2 q3
          · obtain rfl : k' = c := by omega
            exact no i' q3
        · refine Or.inr ⟨e2, a1, fun k' i' q1 q2 q3 => ?_, e.trans a3⟩
          rcases Nat.lt_or_ge c k' with z | z
          · exact a2 k' i' z q2 q3
          · obtain rfl : k' = c := by omega
            exact no i' q3
      by_cases hp : way t.mask h c ∈ t.place.toList
      · obtain ⟨i, hi⟩ := List.mem_iff_getElem?.mp hp
        have hs : t.slot (dm (nth t.mask (st0 t.mask h) c) d).j = .live i := slot_live rp hi
        by_cases hh : hashAt i = h
        · refine Or.inl ⟨c, i, d, Nat.le_refl _, hlt, hi, hh, hd, fun k' i' q1 q2 => absurd q2 (by omega), ?_⟩
          unfold SetTable.probe.go
          rw [hs]
          show (if (hashAt i == h) = true then some (SetTable.Met.candidate _ i (t.advance _)) else _) = _
          rw [if_pos (beq_iff_eq.mpr hh), adv_eq, adv_dm, nth_succ]; rfl
        · refine more d hd (fun i' hi' => ?_) ?_
          · have e1 := slot_live rp hi'
            rw [show t.slot (way t.mask h c) = .live i from hs] at e1
            injection e1 with e1
            rw [← e1]; exact hh
          · conv => lhs; unfold SetTable.probe.go
            rw [hs]
            show (if (hashAt i == h) = true then some (SetTable.Met.candidate _ i (t.advance _)) else _) = _
            rw [if_neg (by rw [beq_iff_eq]; exact hh), adv_eq, adv_dm, nth_succ]
      · have hdm : way t.mask h c ∈ t.dummies.toList := (hb c hlt).resolve_left hp
        have hs : t.slot (dm (nth t.mask (st0 t.mask h) c) d).j = .dummy := (slot_of rp rd hp).trans (if_pos hdm)
        refine more (some (way t.mask h c)) (fun x e => ?_) (fun i' hi' => absurd (List.mem_of_getElem? hi') hp) ?_
        · cases e
          exact ⟨hdm, c, hlt, rfl⟩
        · conv => lhs; unfold SetTable.probe.go
          rw [hs]
          show SetTable.probe.go t hashAt h f (t.advance (dm (dm (nth t.mask (st0 t.mask h) c) d) (some (way t.mask h c)))) = _
          rw [adv_eq, show dm (dm (nth t.mask (st0 t.mask h) c) d) (some (way t.mask h c)) = dm (nth t.mask (st0 t.mask h) c) (some (way t.mask h c)) from rfl, adv_dm, nth_succ]
    · obtain rfl : c = K := by omega
      refine Or.inr ⟨d, hd, fun k' i' q1 q2 => absurd q2 (by omega), ?_⟩
      have hs : t.slot (dm (nth t.mask (st0 t.mask h) c) d).j = .empty := (slot_of rp rd fun z => hK (.inl z)).trans (if_neg fun z => hK (.inr z))
      unfold SetTable.probe.go
      rw [hs]; rfl
/-! one put in, one taken out -/
/-- where a new one may go: on the way, behind slots that are not empty -/
def FreeAt (t : SetTable) (h : Int) (j : Nat) (was : Bool) : Prop := (∃ k, way t.mask h k = j ∧ ∀ k', k' < k → occ t (way t.mask h k')) ∧ j ∉ t.place.toList ∧ (if was then j ∈ t.dummies.toList else j ∉ t.dummies.toList)
theorem ris_erase {xs : List Nat} (r : Ris xs) (i : Nat) : Ris (xs.eraseIdx i) := List.Pairwise.sublist (List.eraseIdx_sublist xs i) r
theorem toList_eraseA {α : Type} (xs : Array α) (p : Nat) : (SetTable.eraseAt xs p).toList = xs.toList.eraseIdx p := by
  rw [List.eraseIdx_eq_take_drop_succ]
  unfold SetTable.eraseAt
  simp [Array.toList_extract, List.extract_eq_take_drop]
  rw [List.take_of_length_le (by simp)]
theorem mem_erase {xs : List Nat} (r : Ris xs) {i j : Nat} (hi : xs[i]? = some j) (x : Nat) : x ∈ xs.eraseIdx i ↔ x ∈ xs ∧ x ≠ j := by
  have nd : xs.Nodup := List.Pairwise.imp (fun h => Nat.ne_of_lt h) r
  have pm := erase_perm xs i j hi
  have nd2 := pm.nodup_iff.mpr nd
  rw [List.nodup_cons] at nd2
  constructor
  · intro h
    exact ⟨pm.mem_iff.mp (.tail _ h), fun e => nd2.1 (e ▸ h)⟩
  · rintro ⟨h, hn⟩
    exact (List.mem_cons.mp (pm.mem_iff.mpr h)).resolve_left hn
theorem TabG.put {t : SetTable} {hs : List Int} (T : TabG t hs) {h : Int} {j : Nat} {was : Bool} (F : FreeAt t h j was) :
    (t.put j).2 ≤ hs.length ∧ TabG (t.put j).1 (hs.take (t.put j).2 ++ h :: hs.drop (t.put j).2) ∧ (t.put j).1.mask = t.mask ∧ (t.put j).1.led = t.led ∧ (t.put j).1.plain = t.plain ∧ (t.put j).1.fill = if was then t.fill else t.fill + 1 := by
  obtain ⟨⟨k0, e0, b0⟩, hnp, hwd⟩ := F
  obtain ⟨c1, _, _⟩ := below_cut T.rp j
  have hph : SetTable.below t.place j ≤ hs.length := by rw [← T.sz]; exact c1
  have hpl : SetTable.below t.place j ≤ t.place.toList.length := by rw [Array.length_toList]; exact c1
  have hpp := put_place t j
  have mp : ∀ x, x ∈ (t.put j).1.place.toList ↔ x = j ∨ x ∈ t.place.toList := fun x => by rw [hpp]; exact mem_ins
  have dd : (t.put j).1.dummies.toList = if j ∈ t.dummies.toList then t.dummies.toList.eraseIdx (SetTable.below t.dummies j) else t.dummies.toList := by
    show (if SetTable.has t.dummies j = true then SetTable.eraseAt t.dummies (SetTable.below t.dummies j) else t.dummies).toList = _
    by_cases c : j ∈ t.dummies.toList
    · rw [if_pos c, if_pos ((has_iff T.rd j).mpr c), toList_eraseA]
    · rw [if_neg c, if_neg fun z => c ((has_iff T.rd j).mp z)]
  have at_ : j ∈ t.dummies.toList → t.dummies.toList[SetTable.below t.dummies j]? = some j := fun c => by
    have z := (has_iff T.rd j).mpr c
    unfold SetTable.has at z
    rw [beq_iff_eq] at z
    rw [Array.getElem?_toList]; exact z
  have md : ∀ x, x ∈ (t.put j).1.dummies.toList ↔ x ∈ t.dummies.toList ∧ x ≠ j := fun x => by
    rw [dd]
    by_cases c : j ∈ t.dummies.toList
    · rw [if_pos c]; exact mem_erase T.rd (at_ c) x
    · rw [if_neg c]; exact ⟨fun z => ⟨z, fun e => c (e ▸ z)⟩, fun z => z.1⟩
  have up : ∀ x, occ t x → occ (t.put j).1 x := fun x hx => by
    by_cases c : x = j
    · exact .inl ((mp x).mpr (.inl c))
    · exact hx.imp (fun z => (mp x).mpr (.inr z)) fun z => (md x).mpr ⟨z, c⟩
  have hsize : (t.put j).1.place.size = t.place.size + 1 := by rw [← Array.length_toList, hpp, len_ins _ hpl, Array.length_toList]
  refine ⟨hph, ⟨ris_insert T.rp fun e => hnp (List.mem_of_getElem? (by rw [Array.getElem?_toList]; exact e)), ?_, fun x hx hy => ?_, ?_, T.mg, fun x hx => ?_, fun i h' j' h1 h2 => ?_⟩, rfl, rfl, rfl, ?_⟩
  · rw [dd]; split
    · exact ris_erase T.rd _
    · exact T.rd
  · rcases (mp x).mp hx with e | z
    · exact ((md x).mp hy).2 e
    · exact T.dj x z ((md x).mp hy).1
  · rw [hsize, T.sz]; exact (len_ins _ hph _).symm
  · rcases (mp x).mp hx with e | z
    · rw [e, ← e0]; exact way_in t.mask h k0
    · exact T.bp x z
  · have h1' := h1
    rw [show (t.put j).2 = SetTable.below t.place j from rfl, tins_get hs hph] at h1'
    rw [hpp, tins_get _ hpl] at h2
    by_cases c : i < SetTable.below t.place j
    · rw [if_pos c] at h1' h2
      obtain ⟨k, e, z⟩ := T.rc i h' j' h1' h2
      exact ⟨k, e, fun k' hk' => up _ (z k' hk')⟩
    · rw [if_neg c] at h1' h2
      by_cases c2 : i = SetTable.below t.place j
      · rw [if_pos c2] at h1' h2
        cases h1'; cases h2
        exact ⟨k0, e0, fun k' hk' => up _ (b0 k' hk')⟩
      · rw [if_neg c2] at h1' h2
        obtain ⟨k, e, z⟩ := T.rc (i - 1) h' j' h1' h2
        exact ⟨k, e, fun k' hk' => up _ (z k' hk')⟩
  · show (t.put j).1.place.size + (t.put j).1.dummies.size = _
    rw [hsize, ← Array.length_toList (xs := (t.put j).1.dummies), dd]
    unfold SetTable.fill
    cases was
    · rw [if_neg (show ¬ j ∈ t.dummies.toList from hwd), Array.length_toList]
      show _ = t.place.size + t.dummies.size + 1
      omega
    · have c : j ∈ t.dummies.toList := hwd
      have l := (List.getElem?_eq_some_iff.mp (at_ c)).1
      rw [if_pos c, List.length_eraseIdx, if_pos l, Array.length_toList]
      rw [Array.length_toList] at l
      show _ = t.place.size + t.dummies.size
      omega
theorem TabG.drop {t : SetTable} {hs : List Int} (T : TabG t hs) {i : Nat} (hi : i < hs.length) :
    TabG (t.drop i) (hs.eraseIdx i) ∧ (t.drop i).mask = t.mask ∧ (t.drop i).led = t.led ∧ (t.drop i).plain = t.plain ∧ (t.drop i).fill = t.fill := by
  have hl : i < t.place.size := by rw [T.sz]; exact hi
  obtain ⟨j, hj⟩ : ∃ j, t.place[i]? = some j := ⟨_, Array.getElem?_eq_getElem hl⟩
  have hjl : t.place.toList[i]? = some j := by rw [Array.getElem?_toList]; exact hj
  have hjp : j ∈ t.place.toList := List.mem_of_getElem? hjl
  have e : t.drop i = { t with place := SetTable.eraseAt t.place i, dummies := SetTable.insertAt t.dummies (SetTable.below t.dummies j) j } := by
    unfold SetTable.drop; rw [hj]
  have ep : (t.drop i).place.toList = t.place.toList.eraseIdx i := by rw [e]; exact toList_eraseA _ _
  have hnd : t.dummies[SetTable.below t.dummies j]? ≠ some j := fun z => T.dj j hjp (List.mem_of_getElem? (by rw [Array.getElem?_toList]; exact z))
  have ed : (t.drop i).dummies.toList = t.dummies.toList.take (SetTable.below t.dummies j) ++ j :: t.dummies.toList.drop (SetTable.below t.dummies j) := by rw [e]; exact SetTable.toList_insertAt _ _ _
  have mp : ∀ x, x ∈ (t.drop i).place.toList ↔ x ∈ t.place.toList ∧ x ≠ j := fun x => by rw [ep]; exact mem_erase T.rp hjl x
  have md : ∀ x, x ∈ (t.drop i).dummies.toList ↔ x = j ∨ x ∈ t.dummies.toList := fun x => by rw [ed]; exact mem_ins
  have up : ∀ x, occ t x → occ (t.drop i) x := fun x hx => by
    by_cases c : x = j
    · exact .inr ((md x).mpr (.inl c))
    · exact hx.imp (fun z => (mp x).mpr ⟨z, c⟩) fun z => (md x).mpr (.inr z)
  have em : (t.drop i).mask = t.mask := by rw [e]
  obtain ⟨c1, _, _⟩ := below_cut T.rd j
  refine ⟨⟨by rw [ep]; exact ris_erase T.rp i, ?_, fun x hx hy => ?_, ?_, by rw [em]; exact T.mg, fun x hx => by rw [em]; exact T.bp x ((mp x).mp hx).1, fun a h' j' h1 h2 => ?_⟩, em, by rw [e], by rw [e], ?_⟩
  · rw [e]; exact ris_insert T.rd hnd
  · rcases (md x).mp hy with z | z
    · exact ((mp x).mp hx).2 z
    · exact T.dj x ((mp x).mp hx).1 z
  · rw [← Array.length_toList, ep, List.length_eraseIdx, List.length_eraseIdx, Array.length_toList, T.sz]
  · rw [ep, List.getElem?_eraseIdx] at h2
    rw [List.getElem?_eraseIdx] at h1
    rw [em]
    have go : ∀ a', hs[a']? = some h' → t.place.toList[a']? = some j' → ∃ k, way t.mask h' k = j' ∧ ∀ k', k' < k → occ (t.drop i) (way t.mask h' k') := fun a' q1 q2 => by
      obtain ⟨k, r1, r2⟩ := T.rc a' h' j' q1 q2
      exact ⟨k, r1, fun k' hk => up _ (r2 k' hk)⟩
    by_cases c : a < i
    · rw [if_pos c] at h1 h2; exact go a h1 h2
    · rw [if_neg c] at h1 h2; exact go (a + 1) h1 h2
  · show (t.drop i).place.size + (t.drop i).dummies.size = t.place.size + t.dummies.size
    have l1 : (t.drop i).place.size = t.place.size - 1 := by
      rw [← Array.length_toList, ep, List.length_eraseIdx, if_pos (by rw [Array.length_toList]; exact hl), Array.length_toList]
    have l2 : (t.drop i).dummies.size = t.dummies.size + 1 := by
      rw [← Array.length_toList, ed, len_ins _ (by rw [Array.length_toList]; exact c1), Array.length_toList]
    rw [l1, l2]; omega
end Sx

set_option maxRecDepth 100000
set_option maxHeartbeats 1000000
namespace Sx
open PySem PySem.Spec PyProof.Rows L2
/-! a clean lay -/
theorem laid_ok {m : Nat} (G : MG m) (finger moves : Nat) (led plain : Bool) {hs : Array Int} (hn : hs.size ≤ m) :
    ∃ t order, SetTable.laid m finger moves led plain hs = some (t, order) ∧ order.toList.Perm (List.range hs.size) ∧ TabG t (order.toList.map fun i => hs.getD i 0) ∧ t.mask = m ∧ t.led = led ∧ t.plain = plain ∧ t.dummies = #[] := by
  obtain ⟨ow, e, W⟩ := G.clean hn
  have hl : SetTable.laid m finger moves led plain hs = some (({ mask := m, place := ((liveOf m ow).map (·.1)).toArray, dummies := #[], finger, led, moves, plain } : SetTable), ((liveOf m ow).map (·.2)).toArray) := by
    rw [show SetTable.laid m finger moves led plain hs = (SetTable.layClean m hs).bind fun o => some (({ mask := m, place := ((liveOf m o).map (·.1)).toArray, dummies := #[], finger, led, moves, plain } : SetTable), ((liveOf m o).map (·.2)).toArray) from rfl, e]; rfl
  have rr : Ris (List.range (m + 1)) := by unfold Ris; first | exact List.pairwise_lt_range | exact List.pairwise_lt_range _
  obtain ⟨r1, r2⟩ := ris_live (fun j => ow.getD j none) (List.range (m + 1)) rr
  change Ris ((liveOf m ow).map (·.1)) at r1
  change ∀ x ∈ (liveOf m ow).map (·.1), x ∈ List.range (m + 1) at r2
  have ml : ∀ j k, (j, k) ∈ liveOf m ow ↔ j ≤ m ∧ oAt ow j = some k := fun j k => mem_live W.sz
  have cover : ∀ k, k < hs.size → k ∈ (liveOf m ow).map (·.2) := fun k hk => by
    obtain ⟨j, b1, b2⟩ := W.all k (by simpa using hk)
    exact List.mem_map.mpr ⟨(j, k), (ml j k).mpr ⟨b1, b2⟩, rfl⟩
  have hlen : (liveOf m ow).length = hs.size := by
    obtain ⟨ps, p1, p2⟩ := W.ps
    have nd1 : ((liveOf m ow).map (·.1)).Nodup := List.Pairwise.imp (fun h => Nat.ne_of_lt h) r1
    have a := nat_nodup_len ((liveOf m ow).map (·.1)) ps nd1 fun x hx => by
      obtain ⟨⟨j, k⟩, hq, rfl⟩ := List.mem_map.mp hx
      obtain ⟨b1, b2⟩ := (ml j k).mp hq
      exact p2 j b1 (by rw [b2]; nofun)
    have b := nat_nodup_len (List.range hs.size) ((liveOf m ow).map (·.2)) List.nodup_range fun k hk => cover k (List.mem_range.mp hk)
    simp at a b p1
    omega
  refine ⟨_, _, hl, perm_range hs.size _ (by simpa using hlen) (fun k hk => cover k hk), ⟨r1, List.Pairwise.nil, fun j _ hd => (by cases hd), by simp, G, fun x hx => Nat.le_of_lt_succ (List.mem_range.mp (r2 x hx)), fun i h j h1 h2 => ?_⟩, rfl, rfl, rfl, rfl⟩
  have h1' : (((liveOf m ow).map (·.2)).map fun i => hs.getD i 0)[i]? = some h := h1
  have h2' : ((liveOf m ow).map (·.1))[i]? = some j := h2
  rw [List.getElem?_map] at h2'
  rw [List.getElem?_map, List.getElem?_map] at h1'
  cases hq : (liveOf m ow)[i]? with
  | none => rw [hq] at h2'; cases h2'
  | some q =>
    rw [hq] at h1' h2'
    obtain ⟨y, k⟩ := q
    obtain rfl : y = j := Option.some.inj h2'
    obtain ⟨b1, b2⟩ := (ml y k).mp (List.mem_of_getElem? hq)
    obtain ⟨h0, K, a1, a2, a3⟩ := W.at_ y k b1 b2
    have eh : hs.getD k 0 = h := Option.some.inj h1'
    have e0 : hs.getD k 0 = h0 := by
      rw [Array.getElem?_toList] at a1
      rw [Array.getD_eq_getD_getElem?, a1]; rfl
    obtain rfl : h0 = h := e0.symm.trans eh
    refine ⟨K, a2, fun k' hk' => .inl ?_⟩
    show way m h0 k' ∈ (liveOf m ow).map (·.1)
    obtain ⟨k2, z⟩ := Option.ne_none_iff_exists'.mp (a3 k' hk')
    exact List.mem_map.mpr ⟨(_, k2), (ml _ k2).mpr ⟨way_in m h0 k', z⟩, rfl⟩
section
variable {P : Program} {w : World}
/-- a set of tuples of integers, of any usual mask, dummies too -/
structure SetG (P : Program) (w : World) (h : Heap) (a : Addr) (L : List (Addr × List Int)) (es : Array (Int × Value)) (ep : Nat) (t : SetTable) : Prop where
  ob : ∃ o, h.get? a = some o ∧ o.ExactSet ∧ o.data = .set es ep t
  rows : es.toList = rowsOf P w L
  tab : TabG t (L.map fun p => thash P w p.2)
  nd : (L.map (·.2)).Nodup
  tup : ∀ p, p ∈ L → IsT P w h p.2 p.1
  plain : t.plain = true
  led : w.params.followText "set-order" = true ∨ t.led = true
  room : t.fill * 5 < t.mask * 3
  few : L.length < 64
theorem SetG.ofR {h : Heap} {a : Addr} {L : List (Addr × List Int)} {es : Array (Int × Value)} {ep : Nat} {t : SetTable} (R : SetTR P w h a L es ep t) : SetG P w h a L es ep t := by
  refine ⟨R.ob, R.rows, .ofOk R.tab, R.nd, R.tup, R.plain, R.led, ?_, R.few⟩
  have z := R.tab.sz
  rw [List.length_map] at z
  unfold SetTable.fill
  rw [z, R.tab.dm]; exact R.room
variable {A : Around} {E : Value → Shared → Prop} {s : Shared} {h : Heap} {a : Addr} {L : List (Addr × List Int)} {es : Array (Int × Value)} {ep : Nat} {t : SetTable}
theorem SetG.len (R : SetG P w h a L es ep t) : es.size = L.length := by
  have e := congrArg List.length R.rows
  unfold rowsOf at e
  simpa using e
theorem SetG.fits (R : SetG P w h a L es ep t) : t.fits es.size = true := by
  have h1 := R.tab.sz
  have h2 := R.len
  have h3 := R.room
  unfold SetTable.fits
  rw [Bool.and_eq_true, beq_iff_eq, decide_eq_true_eq]
  rw [List.length_map] at h1
  omega
theorem SetG.get (R : SetG P w h a L es ep t) {i : Nat} {p : Addr × List Int} (e : L[i]? = some p) : es[i]? = some (thash P w p.2, Value.ref p.1) := by
  rw [← Array.getElem?_toList, R.rows]
  unfold rowsOf
  rw [List.getElem?_map, e]; rfl
theorem TabG.first {hs : List Int} (T : TabG t hs) (hl : t.fill ≤ t.mask) (h : Int) : ∃ K, K < 10 * SetTable.turns t.mask ∧ ¬ occ t (way t.mask h K) ∧ ∀ k, k < K → occ t (way t.mask h k) := by
  obtain ⟨j, hj, hn⟩ := st_missing (t.place.toList ++ t.dummies.toList) (t.mask + 1) (by
    have : (t.place.toList ++ t.dummies.toList).length = t.fill := by unfold SetTable.fill; simp
    omega)
  obtain ⟨k, hk, e⟩ := T.mg.meets h (Nat.le_of_lt_succ hj)
  have hno : ¬ occ t (way t.mask h k) := by rw [e]; exact fun z => hn (List.mem_append.mpr z)
  obtain ⟨K, h1, h2, h3⟩ := st_least (p := fun k => ¬ occ t (way t.mask h k)) k hno
  exact ⟨K, Nat.lt_of_le_of_lt h1 hk, h2, fun k' hk' => Classical.byContradiction (h3 k' hk')⟩
theorem sg_from (R : SetG P w s.heap a L es ep t) {x : Addr} {k : List Int} (hx : IsT P w s.heap k x) (hu : A.units < cLine) (ad : Bool) {K : Nat} (hKf : K < 10 * SetTable.turns t.mask)
    (hK : ¬ occ t (way t.mask (thash P w k) K)) (hb : ∀ c, c < K → occ t (way t.mask (thash P w k) c)) {Q : SetFound → Shared → Prop}
    (hin : ∀ (i : Nat) p, L[i]? = some p → p.2 = k → Q (.there (if ad then none else some i)) s) (hout : k ∉ L.map (·.2) → ∀ j was, FreeAt t (thash P w k) j was → Q (.free j was) s) :
    ∀ (f c : Nat) (d : Option Nat) (stand : Option SetTable.Probe), stand.getD (t.probeStart (thash P w k)) = dm (nth t.mask (st0 t.mask (thash P w k)) c) d → c ≤ K → K - c < f → DP t (thash P w k) K d →
      (∀ (i : Nat) p, L[i]? = some p → p.2 = k → ∃ c', c ≤ c' ∧ c' < K ∧ t.place.toList[i]? = some (way t.mask (thash P w k) c')) →
      wpAny (model P w) A (setSearchFrom a (.ref x) (thash P w k) ad f stand) Q E s := by
  obtain ⟨o, ho, hex, hd⟩ := R.ob
  have HA : ∀ (i : Nat) p, L[i]? = some p → (fun i => (es[i]?.map (·.1)).getD 0) i = thash P w p.2 := fun i p hp => by
    show (es[i]?.map (·.1)).getD 0 = _
    rw [R.get hp]; rfl
  have GW : ¬ t.gaveWay = true := by
    unfold SetTable.gaveWay; rw [R.tab.mg.odd]; decide
  intro f
  induction f with
  | zero => intro c d stand _ _ hf; exact absurd hf (Nat.not_lt_zero _)
  | succ f ih =>
    intro c d stand hst hc hf hdp hre
    rw [setSearchFrom_succ]
    refine wpAny_bind (wpAny_setState_of ho hd R.fits ?_)
    dsimp only
    refine wp_if_neg GW ?_
    try refine wpAny_bind (wpAny_pure ?_)
    have spec := probeG R.tab.rp R.tab.rd (fun i => (es[i]?.map (·.1)).getD 0) (thash P w k) hK hb (10 * SetTable.turns t.mask) c d hc (by omega) hdp
    unfold PG at spec
    rw [← hst] at spec
    rcases spec with ⟨q, i, e, a1, a2, hi, hh, hde, hno, hpr⟩ | ⟨e, hde, hno, hpr⟩
    · rw [show t.probe (fun i => (es[i]?.map (·.1)).getD 0) (thash P w k) (stand.getD (t.probeStart (thash P w k))) = _ from hpr]
      dsimp only
      have hil : i < L.length := by
        have l1 := (List.getElem?_eq_some_iff.mp hi).1
        have l2 := R.tab.sz
        simp at l1 l2
        omega
      obtain ⟨p, hp⟩ : ∃ p, L[i]? = some p := ⟨_, List.getElem?_eq_getElem hil⟩
      have hpt := R.tup p (List.mem_of_getElem? hp)
      have hsl := slot_live R.tab.rp hi
      have rest : wpAny (model P w) A (searchRest a (.ref x) (thash P w k) ad f es t (way t.mask (thash P w k) q) i (dm (nth t.mask (st0 t.mask (thash P w k)) (q + 1)) e)) Q E s := by
        unfold searchRest
        rw [R.get hp]
        dsimp only
        refine wpAny_bind (wpAny_holding (wpAny_eqBool_tuple hu hpt hx ?_))
        refine wpAny_bind (wpAny_setState_of ho hd R.fits ?_)
        dsimp only
        by_cases hkk : p.2 = k
        · have fin := hin i p hp hkk
          cases ad
          · refine wp_if_neg (by simp) ?_
            try refine wpAny_bind (wpAny_pure ?_)
            rw [sameMem]
            dsimp only
            simp only [if_true, hsl, R.get hp]
            refine wpAny_bind (wpAny_isSame_ref_self (wpAny_bind (wpAny_pure ?_)))
            simp only [if_true]
            refine wp_if_pos (by simp [hkk]) ?_
            exact wpAny_pure fin
          · refine wp_if_pos (by simp [hkk]) ?_
            exact wpAny_pure fin
        · refine wp_if_neg (by simp [hkk]) ?_
          try refine wpAny_bind (wpAny_pure ?_)
          rw [sameMem]
          dsimp only
          simp only [if_true, hsl, R.get hp]
          refine wpAny_bind (wpAny_isSame_ref_self (wpAny_bind (wpAny_pure ?_)))
          simp only [if_true]
          refine wp_if_neg (by simp [hkk]) ?_
          refine ih (q + 1) e _ rfl (by omega) (by omega) hde fun i0 p0 h0 hk0 => ?_
          obtain ⟨c', z1, z2, z3⟩ := hre i0 p0 h0 hk0
          have hash0 := (HA i0 p0 h0).trans (congrArg (thash P w) hk0)
          refine ⟨c', ?_, z2, z3⟩
          rcases Nat.lt_trichotomy c' q with y | y | y
          · exact absurd hash0 (hno c' i0 z1 y z3)
          · exfalso
            subst y
            have s0 := slot_live R.tab.rp z3
            rw [hsl] at s0
            injection s0 with s0
            rw [← s0, hp] at h0
            exact hkk ((congrArg Prod.snd (Option.some.inj h0)).trans hk0)
          · exact y
      by_cases hl : t.led = true
      · refine wp_if_neg (by simp [hl]) ?_
        try refine wpAny_bind (wpAny_pure ?_)
        exact rest
      · refine wp_if_pos (by simp [hl]) ?_
        refine wpAny_bind (seen_tup hx (fun y hy => ?_) ?_)
        · obtain ⟨e', he, rfl⟩ := List.mem_map.mp hy
          have he2 : e' ∈ rowsOf P w L := by
            rw [← R.rows]
            have he1 : e' ∈ es ∧ e'.1 = thash P w k := by simpa using he
            simpa using he1.1
          obtain ⟨p2, hp2, rfl⟩ := List.mem_map.mp he2
          exact ⟨p2.2, p2.1, rfl, R.tup p2 hp2⟩
        · refine wp_if_neg (by decide) ?_
          try refine wpAny_bind (wpAny_pure ?_)
          exact rest
    · rw [show t.probe (fun i => (es[i]?.map (·.1)).getD 0) (thash P w k) (stand.getD (t.probeStart (thash P w k))) = _ from hpr]
      dsimp only
      have hnot : k ∉ L.map (·.2) := fun hm => by
        obtain ⟨p0, h0, hk0⟩ := List.mem_map.mp hm
        obtain ⟨i0, h00⟩ := List.mem_iff_getElem?.mp h0
        obtain ⟨c', z1, z2, z3⟩ := hre i0 p0 h00 hk0
        exact hno c' i0 z1 z2 z3 ((HA i0 p0 h00).trans (congrArg (thash P w) hk0))
      cases e with
      | none => exact wpAny_pure (hout hnot _ false ⟨⟨K, rfl, hb⟩, fun z => hK (.inl z), fun z => hK (.inr z)⟩)
      | some d' =>
        obtain ⟨m1, kd, m2, m3⟩ := hde d' rfl
        have hnp : d' ∉ t.place.toList := fun z => R.tab.dj d' z m1
        have hsd : t.slot d' = .dummy := (slot_of R.tab.rp R.tab.rd hnp).trans (if_pos m1)
        refine wp_if_neg (by simp [hsd]) ?_
        try refine wpAny_bind (wpAny_pure ?_)
        exact wpAny_pure (hout hnot _ true ⟨⟨kd, m3, fun k' hk' => hb k' (by omega)⟩, hnp, m1⟩)
theorem sg_search (R : SetG P w s.heap a L es ep t) {x : Addr} {k : List Int} (hx : IsT P w s.heap k x) (hu : A.units < cLine) (ad : Bool) {Q : SetFound → Shared → Prop}
    (hin : ∀ (i : Nat) p, L[i]? = some p → p.2 = k → Q (.there (if ad then none else some i)) s) (hout : k ∉ L.map (·.2) → ∀ j was, FreeAt t (thash P w k) j was → Q (.free j was) s) :
    wpAny (model P w) A (setSearch a (.ref x) (thash P w k) ad) Q E s := by
  have hroom := R.room
  obtain ⟨K, hKf, hK, hb⟩ := R.tab.first (by omega) (thash P w k)
  have htop := R.tab.mg.top
  have e0 : SetTable.turns t.mask = t.mask + 15 := rfl
  unfold setSearch
  refine sg_from R hx hu ad hKf hK hb hin hout 100000 0 none none rfl (Nat.zero_le _) (by omega) (fun x e => by cases e) fun i p hp hk => ?_
  have hil : i < t.place.toList.length := by
    have l1 := (List.getElem?_eq_some_iff.mp hp).1
    have l2 := R.tab.sz
    simp at l2 ⊢
    omega
  have hj := List.getElem?_eq_getElem hil
  obtain ⟨c, e, z⟩ := R.tab.rc i (thash P w k) _ (by rw [List.getElem?_map, hp, ← hk]; rfl) hj
  refine ⟨c, Nat.zero_le _, ?_, by rw [hj, e]⟩
  rcases Nat.lt_trichotomy c K with y | y | y
  · exact y
  · subst y; rw [e] at hK
    exact absurd (Or.inl (List.mem_of_getElem? hj)) hK
  · exact absurd (z K y) hK
end
end Sx

set_option maxRecDepth 100000
set_option maxHeartbeats 1000000
namespace Sx
open PySem PySem.Spec PyProof.Rows L2
theorem map_er {α β : Type} (f : α → β) : ∀ (l : List α) (i : Nat), (l.map f).eraseIdx i = (l.eraseIdx i).map f
  | [], _ => rfl
  | _ :: _, 0 => rfl
  | x :: l, i + 1 => congrArg (f x :: ·) (map_er f l i)
section
variable {P : Program} {w : World} {A : Around} {E : Value → Shared → Prop} {s : Shared} {a : Addr} {L : List (Addr × List Int)} {es : Array (Int × Value)} {ep : Nat} {t : SetTable}
/-- the set's own parts, before its table fits again -/
structure SetP (P : Program) (w : World) (h : Heap) (a : Addr) (L : List (Addr × List Int)) (es : Array (Int × Value)) (ep : Nat) (t : SetTable) : Prop where
  ob : ∃ o, h.get? a = some o ∧ o.ExactSet ∧ o.data = .set es ep t
  rows : es.toList = rowsOf P w L
  sz : t.place.size = es.size
  full : t.fill ≤ t.mask
  nd : (L.map (·.2)).Nodup
  tup : ∀ p, p ∈ L → IsT P w h p.2 p.1
  plain : t.plain = true
  led : w.params.followText "set-order" = true ∨ t.led = true
  few : L.length < 64
theorem SetG.toP {h : Heap} (R : SetG P w h a L es ep t) : SetP P w h a L es ep t := by
  have h1 := R.tab.sz
  have h2 := R.len
  have h3 := R.room
  rw [List.length_map] at h1
  exact ⟨R.ob, R.rows, by omega, by omega, R.nd, R.tup, R.plain, R.led, R.few⟩
theorem SetP.len {h : Heap} (R : SetP P w h a L es ep t) : es.size = L.length := by
  have e := congrArg List.length R.rows
  unfold rowsOf at e
  simpa using e
theorem SetP.fits {h : Heap} (R : SetP P w h a L es ep t) : t.fits es.size = true := by
  unfold SetTable.fits
  rw [Bool.and_eq_true, beq_iff_eq, decide_eq_true_eq]
  exact ⟨R.sz, R.full⟩
theorem sg_put {h : Heap} {o : Obj} (ho : h.get? a = some o) (hex : o.ExactSet) (hd : o.data = .set es ep t) (es' : Array (Int × Value)) (t' : SetTable) :
    Heap.SameBut a h (h.update a (Obj.putSet es' t')) ∧ ∃ o', (h.update a (Obj.putSet es' t')).get? a = some o' ∧ o'.ExactSet ∧ o'.data = .set es' (ep + 1) t' :=
  ⟨Heap.SameBut.update .., _, store_at ho hd, ⟨hex.1, hex.2.1, hex.2.2⟩, rfl⟩
/-- laid anew -/
theorem sg_relay (R : SetP P w s.heap a L es ep t) {wanted : Nat} (hw : wanted < 256) (hn : L.length * 2 ≤ wanted) {Q : Unit → Shared → Prop}
    (hQ : ∀ h' L' es' ep' t', Heap.SameBut a s.heap h' → SetG P w h' a L' es' ep' t' → L'.Perm L → wanted ≤ t'.mask → Q () { s with heap := h' }) : wpAny (model P w) A (setRelay a wanted) Q E s := by
  obtain ⟨o, ho, hex, hd⟩ := R.ob
  have hsl := R.len
  obtain ⟨z1, z2, z3⟩ := size_ok hw
  generalize hS : SetTable.sizeAbove wanted = S at z1 z2 z3
  obtain ⟨t', order, e, hp, T, em, el, epl, ed⟩ := laid_ok z3 t.finger (t.movedTo (S - 1)) t.led t.plain (hs := es.map (·.1)) (by rw [Array.size_map]; omega)
  rw [Array.size_map, hsl] at hp
  obtain ⟨L2, r1, r2, r3⟩ := order_rows L es order R.rows hp
  rw [← r3] at T
  have hs2 : (order.filterMap (es[·]?)).size = es.size := by
    have q := congrArg List.length r1
    unfold rowsOf at q
    rw [Array.length_toList, List.length_map, r2.length_eq] at q
    rw [q, hsl]
  have er : t.relaid (es.map (·.1)) wanted = some (t', order) := by
    rw [← e, ← hS]; rfl
  rw [setRelay_eq]
  refine wpAny_bind (wpAny_setState_of ho hd R.fits ?_)
  dsimp only
  refine wp_if_neg (by rw [sizeLine_eq, hS]; omega) ?_
  try refine wpAny_bind (wpAny_pure ?_)
  rw [er]
  dsimp only
  refine wpAny_bind ?_
  refine wp_if_neg (by rw [hs2]; simp) ?_
  try refine wpAny_bind (wpAny_pure ?_)
  refine wpAny_pure ?_
  dsimp only
  have few := R.few
  refine wpAny_storeSet_of ho hd ?_ (by rw [hs2, sizeLine_eq]; omega)
  obtain ⟨sb, ob'⟩ := sg_put ho hex hd (order.filterMap (es[·]?)) t'
  have hfill : t'.fill = L.length := by
    unfold SetTable.fill
    rw [T.sz, List.length_map, ed, r2.length_eq]; rfl
  refine hQ _ L2 _ (ep + 1) t' sb ⟨ob', r1, T, (r2.map (·.2)).nodup_iff.mpr R.nd, fun p hpm => isT_same (R.tup p (r2.mem_iff.mp hpm)) ho hd sb, by rw [epl]; exact R.plain, by rw [el]; exact R.led, ?_, by rw [r2.length_eq]; exact few⟩ r2 (by rw [em]; omega)
  have odd := T.mg.odd
  rw [hfill]
  omega
/-- one added -/
theorem sg_add (R : SetG P w s.heap a L es ep t) {x : Addr} {k : List Int} (hx : IsT P w s.heap k x) (hu : A.units < cLine) (hfew : L.length + 1 < 64) {Q : Bool → Shared → Prop}
    (hQ : ∀ b h' L' es' ep' t', Heap.SameBut a s.heap h' → SetG P w h' a L' es' ep' t' → (k ∈ L.map (·.2) → L' = L) → (k ∉ L.map (·.2) → L'.Perm ((x, k) :: L)) → Q b { s with heap := h' }) :
    wpAny (model P w) A (setAddHashed a (.ref x) (thash P w k)) Q E s := by
  obtain ⟨o, ho, hex, hd⟩ := R.ob
  have hsl := R.len
  have hroom := R.room
  unfold setAddHashed
  refine wpAny_holding ?_
  rw [show (100000 : Nat) = 99999 + 1 from rfl, setAddHashedIn_succ]
  refine wpAny_bind (wpAny_setState_of ho hd R.fits ?_)
  dsimp only
  refine wp_if_neg (by simp [byScan, Value.scannable]) ?_
  try refine wpAny_bind (wpAny_pure ?_)
  refine wpAny_bind (sg_search R hx hu true (fun i p hp hk => ?_) fun hm j was F => ?_)
  · have hmem : k ∈ L.map (·.2) := List.mem_map.mpr ⟨p, List.mem_of_getElem? hp, hk⟩
    exact wpAny_pure (hQ false s.heap L es ep t (Heap.SameBut.refl a s.heap) R (fun _ => rfl) fun z => absurd hmem z)
  · dsimp only
    refine wpAny_bind (wpAny_setState_of ho hd R.fits ?_)
    dsimp only
    obtain ⟨q2, q3, q4, q5, q6, q9⟩ := R.tab.put F
    have hp1 : (t.put j).1.plain = true := by rw [q6]; exact R.plain
    generalize t.put j = pt at q2 q3 q4 q5 q6 q9 hp1 ⊢
    obtain ⟨t1, p⟩ := pt
    dsimp only at q2 q3 q4 q5 q6 q9 hp1 ⊢
    first
      | (refine wpAny_bind ?_; refine wp_if_pos hp1 ?_; refine hashBy_tup hx ?_)
      | refine wp_if_pos hp1 (wpAny_bind (hashBy_tup hx ?_))
    simp only [if_true]
    have hin : (SetTable.insertAt es p (thash P w k, Value.ref x)).toList = rowsOf P w (L.take p ++ (x, k) :: L.drop p) := by
      rw [SetTable.toList_insertAt, R.rows, ← rows_put]
    have pm := put_perm L p (x, k)
    have hhs : (L.take p ++ (x, k) :: L.drop p).map (fun p => thash P w p.2) = (L.map fun p => thash P w p.2).take p ++ thash P w k :: (L.map fun p => thash P w p.2).drop p := by simp
    rw [← hhs] at q3
    generalize L.take p ++ (x, k) :: L.drop p = L1 at pm q3 hin
    generalize SetTable.insertAt es p (thash P w k, Value.ref x) = es1 at hin ⊢
    have hlen : L1.length = L.length + 1 := pm.length_eq
    have nd1 : (L1.map (·.2)).Nodup := by
      rw [(pm.map (·.2)).nodup_iff, List.map_cons, List.nodup_cons]
      exact ⟨hm, R.nd⟩
    have hes : es1.size = L.length + 1 := by
      have q := congrArg List.length hin
      unfold rowsOf at q
      rw [Array.length_toList, List.length_map, hlen] at q
      exact q
    refine wpAny_bind (wpAny_storeSet_of ho hd ?_ (by rw [hes, sizeLine_eq]; omega))
    obtain ⟨sb, ob1⟩ := sg_put ho hex hd es1 t1
    generalize s.heap.update a (Obj.putSet es1 t1) = h1 at sb ob1 ⊢
    have tup1 : ∀ p, p ∈ L1 → IsT P w h1 p.2 p.1 := fun p hp => by
      rcases List.mem_cons.mp (pm.mem_iff.mp hp) with e | hp
      · rw [e]; exact isT_same hx ho hd sb
      · exact isT_same (R.tup p hp) ho hd sb
    have ld1 : w.params.followText "set-order" = true ∨ t1.led = true := by rw [q5]; exact R.led
    have hsz1 : t1.place.size = es1.size := by rw [q3.sz, List.length_map, hlen, hes]
    have fin : t1.fill * 5 < t1.mask * 3 → wpAny (model P w) A (pure true) Q E { s with heap := h1 } := fun hr =>
      wpAny_pure (hQ true h1 L1 es1 (ep + 1) t1 sb ⟨ob1, hin, q3, nd1, tup1, hp1, ld1, hr, by omega⟩ (fun z => absurd z hm) fun _ => pm)
    by_cases hf : (!was && t1.tooFull) = true
    · first
        | (refine wpAny_bind ?_; refine wp_if_pos hf ?_)
        | (refine wp_if_pos hf ?_; refine wpAny_bind ?_)
      rw [hsl]
      have hg : SetTable.grown (L.length + 1) = (L.length + 1) * 4 := by unfold SetTable.grown; rw [if_neg (by omega)]
      rw [hg]
      have hfl : t1.fill ≤ t1.mask := by
        rw [q9, q4]; split <;> omega
      refine sg_relay (s := { s with heap := h1 }) ⟨ob1, hin, hsz1, hfl, nd1, tup1, hp1, ld1, by omega⟩ (by omega) (by omega) ?_
      intro h2 L2 es2 ep2 t2 sb2 R2 pm2 _
      exact wpAny_pure (hQ true h2 L2 es2 ep2 t2 (sb.trans sb2) R2 (fun z => absurd z hm) fun _ => pm2.trans pm)
    · first
        | refine wp_if_neg hf ?_
        | (refine wpAny_bind ?_; refine wp_if_neg hf ?_; refine wpAny_pure ?_)
      refine fin ?_
      cases was
      · have hnf : ¬ t1.tooFull = true := by simpa using hf
        unfold SetTable.tooFull at hnf
        rw [decide_eq_true_eq] at hnf
        omega
      · rw [q9, q4]; simpa using hroom
/-- one taken out, if it is in -/
theorem sg_discard (R : SetG P w s.heap a L es ep t) {x : Addr} {k : List Int} (hx : IsT P w s.heap k x) (hu : A.units < cLine) {Q : Bool → Shared → Prop}
    (hQ : ∀ b h' L' es' ep' t', Heap.SameBut a s.heap h' → SetG P w h' a L' es' ep' t' → (k ∈ L.map (·.2) → b = true ∧ ∃ i p, L[i]? = some p ∧ p.2 = k ∧ L' = L.eraseIdx i) → (k ∉ L.map (·.2) → b = false ∧ L' = L) → Q b { s with heap := h' }) :
    wpAny (model P w) A (setDiscardHashed a (.ref x) (thash P w k)) Q E s := by
  obtain ⟨o, ho, hex, hd⟩ := R.ob
  unfold setDiscardHashed setFind
  refine wpAny_bind ?_
  rw [show (100000 : Nat) = 99999 + 1 from rfl]
  unfold setFindIn
  refine wpAny_bind (wpAny_setState_of ho hd R.fits ?_)
  dsimp only
  refine wp_if_neg (by simp [byScan, Value.scannable]) ?_
  try refine wpAny_bind (wpAny_pure ?_)
  refine wpAny_bind (sg_search R hx hu false (fun i p hp hk => ?_) fun hm j was F => ?_)
  · refine wpAny_pure ?_
    try dsimp only
    have hmem : k ∈ L.map (·.2) := List.mem_map.mpr ⟨p, List.mem_of_getElem? hp, hk⟩
    refine wpAny_bind (wpAny_setState_of ho hd R.fits ?_)
    try dsimp only
    have hil := (List.getElem?_eq_some_iff.mp hp).1
    obtain ⟨T, e1, e2, e3, e4⟩ := R.tab.drop (i := i) (by simpa using hil)
    have hin : (SetTable.eraseAt es i).toList = rowsOf P w (L.eraseIdx i) := by
      rw [toList_eraseA, R.rows]
      unfold rowsOf
      rw [map_er]
    have hl := R.len
    have few := R.few
    have hle : (L.eraseIdx i).length ≤ L.length := by rw [List.length_eraseIdx]; split <;> omega
    refine wpAny_bind (wpAny_storeSet_of ho hd ?_ (by
      rw [← Array.length_toList, hin]
      unfold rowsOf
      rw [List.length_map, sizeLine_eq]; omega))
    obtain ⟨sb, ob1⟩ := sg_put ho hex hd (SetTable.eraseAt es i) (t.drop i)
    refine wpAny_bind (wpAny_point ?_)
    refine wpAny_pure (hQ true _ (L.eraseIdx i) _ (ep + 1) (t.drop i) sb ⟨ob1, hin, by rw [← map_er]; exact T, ?_, fun p hp => isT_same (R.tup p (List.mem_of_mem_eraseIdx hp)) ho hd sb, by rw [e3]; exact R.plain, by rw [e2]; exact R.led, by rw [e4, e1]; exact R.room, by omega⟩ (fun _ => ⟨rfl, i, p, hp, hk, rfl⟩) fun z => absurd hmem z)
    rw [← map_er]
    exact R.nd.sublist (List.eraseIdx_sublist _ _)
  · refine wpAny_pure ?_
    try dsimp only
    exact wpAny_pure (hQ false s.heap L es ep t (Heap.SameBut.refl a s.heap) R (fun z => absurd z hm) fun _ => ⟨rfl, rfl⟩)
/-- walked, in some order -/
theorem sg_walk (R : SetG P w s.heap a L es ep t) (others : List Addr) (filled : Option Addr) {Q : Array (Int × Value) → Shared → Prop} (hQ : ∀ es' : Array (Int × Value), es'.toList.Perm es.toList → Q es' s) :
    wpAny (model P w) A (setWalkUnseen a others filled) Q E s := by
  obtain ⟨o, ho, hex, hd⟩ := R.ob
  unfold setWalkUnseen
  refine wpAny_bind (wpAny_setState_of ho hd R.fits ?_)
  dsimp only
  refine wpAny_bind (wpAny_byText ?_)
  refine wp_if_pos (by rcases R.led with e | e <;> simp [e, R.plain]) ?_
  unfold setWalk
  refine wpAny_bind (wpAny_setState_of ho hd R.fits ?_)
  dsimp only
  refine wpAny_bind (wpAny_byText ?_)
  by_cases hb : w.params.followText "set-order" = true
  · refine wp_if_pos hb ?_
    exact wpAny_bind (wpAny_askSetting (wpAny_pure (hQ _ (pick_perm _ es))))
  · refine wp_if_neg hb ?_
    try refine wpAny_bind (wpAny_pure ?_)
    refine wp_if_neg (show ¬ ((!t.plain && decide (es.size > 1)) = true) by simp [R.plain]) ?_
    try refine wpAny_bind (wpAny_pure ?_)
    have hl : t.led = true := R.led.resolve_left hb
    refine wpAny_bind (wpAny_of_eq (a := ()) ?_ ?_)
    · show (if (!t.led && decide (es.size > 1)) = true then unsupported "set:maker-not-led" else pure ()) = pure ()
      rw [hl]; rfl
    · exact wpAny_pure (hQ es (List.Perm.refl _))
/-- room is made -/
theorem sg_room (R : SetG P w s.heap a L es ep t) {n : Nat} (hn : L.length + n < 64) {Q : Unit → Shared → Prop}
    (hQ : ∀ h' L' es' ep' t', Heap.SameBut a s.heap h' → SetG P w h' a L' es' ep' t' → L'.Perm L → (L.length + n) * 5 < t'.mask * 3 → Q () { s with heap := h' }) : wpAny (model P w) A (setRoomFor a n) Q E s := by
  obtain ⟨o, ho, hex, hd⟩ := R.ob
  have h1 := R.tab.sz
  have odd := R.tab.mg.odd
  rw [List.length_map] at h1
  unfold setRoomFor
  refine wpAny_bind (wpAny_setState_of ho hd R.fits ?_)
  dsimp only
  by_cases c : (t.fill + n) * 5 ≥ t.mask * 3
  · rw [show t.roomFor n = some ((t.place.size + n) * 2) by unfold SetTable.roomFor; rw [if_pos c]]
    try dsimp only
    refine sg_relay R.toP (by omega) (by omega) fun h' L' es' ep' t' sb R' pm hle => hQ h' L' es' ep' t' sb R' pm ?_
    have odd' := R'.tab.mg.odd
    omega
  · rw [show t.roomFor n = none by unfold SetTable.roomFor; rw [if_neg c]]
    refine wpAny_pure (hQ s.heap L es ep t (Heap.SameBut.refl a s.heap) R (List.Perm.refl _) ?_)
    have : t.place.size ≤ t.fill := by unfold SetTable.fill; omega
    omega
end
end Sx

set_option maxRecDepth 100000
set_option maxHeartbeats 1000000
namespace Sx
open PySem PySem.Spec PyProof.Rows L2
section
variable {P : Program} {w : World} {A : Around} {E : Value → Shared → Prop} {s : Shared} {S O : Addr} {L L2 : List (Addr × List Int)} {es es2 : Array (Int × Value)} {ep ep2 : Nat} {t t2 : SetTable}
theorem sg_other {h h' : Heap} (RS : SetP P w h S L es ep t) (RO : SetG P w h O L2 es2 ep2 t2) (hne : S ≠ O) (sb : Heap.SameBut S h h') : SetG P w h' O L2 es2 ep2 t2 := by
  obtain ⟨o, ho, _, hd⟩ := RS.ob
  obtain ⟨o2, ho2, r2⟩ := RO.ob
  exact ⟨⟨o2, (sb.2 O hne.symm).trans ho2, r2⟩, RO.rows, RO.tab, RO.nd, fun p hp => isT_same (RO.tup p hp) ho hd sb, RO.plain, RO.led, RO.room, RO.few⟩
/-- what a merge leaves -/
structure Mg (L L2 L' : List (Addr × List Int)) : Prop where
  sub : ∀ p, p ∈ L' → p ∈ L ∨ p ∈ L2
  all : ∀ k, k ∈ L'.map (·.2) ↔ k ∈ L.map (·.2) ∨ k ∈ L2.map (·.2)
  len : L'.length ≤ L.length + L2.length
theorem sg_merge (hne : S ≠ O) (RS : SetG P w s.heap S L es ep t) (RO : SetG P w s.heap O L2 es2 ep2 t2) (hu : A.units < cLine) (hfew : L.length + L2.length < 64) (each : Sem Unit)
    (hE : ∀ (s1 : Shared) (Q : Unit → Shared → Prop), SetG P w s1.heap O L2 es2 ep2 t2 → Q () s1 → wpAny (model P w) A each Q E s1) {Q : Unit → Shared → Prop}
    (hQ : ∀ h' L' es' ep' t', Heap.SameBut S s.heap h' → SetG P w h' S L' es' ep' t' → Mg L L2 L' → Q () { s with heap := h' }) : wpAny (model P w) A (setMerge S O each) Q E s := by
  obtain ⟨o2, ho2, hex2, hd2⟩ := RO.ob
  unfold setMerge
  refine wp_if_neg (by simpa using hne) ?_
  try refine wpAny_bind (wpAny_pure ?_)
  refine wpAny_bind (wpAny_setState_of ho2 hd2 RO.fits ?_)
  dsimp only
  have l2 := RO.len
  by_cases he : es2.isEmpty = true
  · refine wp_if_pos he ?_
    have e2 : es2.size = 0 := by simpa [Array.isEmpty_iff_size_eq_zero] using he
    have e0 : L2 = [] := List.eq_nil_of_length_eq_zero (by omega)
    refine wpAny_pure (hQ s.heap L es ep t (Heap.SameBut.refl S s.heap) RS ⟨fun p hp => .inl hp, fun k => ?_, ?_⟩)
    · rw [e0]; simp
    · omega
  refine wp_if_neg he ?_
  try refine wpAny_bind (wpAny_pure ?_)
  refine wpAny_bind (sg_room RS (n := es2.size) (by omega) fun h1 L1 es1 ep1 t1 sb1 R1 pm1 hroom => ?_)
  have RO1 := sg_other RS.toP RO hne sb1
  obtain ⟨o1, ho1, hex1, hd1⟩ := R1.ob
  refine wpAny_bind (wpAny_setState_of (s := { s with heap := h1 }) ho1 hd1 R1.fits ?_)
  dsimp only
  have odd := R1.tab.mg.odd
  have key1 : ∀ k, k ∈ L1.map (·.2) ↔ k ∈ L.map (·.2) := fun k => (pm1.map (·.2)).mem_iff
  by_cases hf : (t1.fill != 0) = true
  · rw [show t1.road t2 = .oneByOne by unfold SetTable.road; rw [if_pos hf]]
    dsimp only
    refine wpAny_bind (sg_walk RO1 [S] (some S) fun es' hp => ?_)
    refine wpAny_bind ?_
    show wpAny _ _ (forIn es' _ _) _ _ _
    rw [← Array.forIn_toList]
    have hrow : ∀ e ∈ es'.toList, ∃ p ∈ L2, e = (thash P w p.2, Value.ref p.1) := fun e he => by
      have z := hp.mem_iff.mp he
      rw [RO1.rows] at z
      obtain ⟨p, hpm, e2⟩ := List.mem_map.mp z
      exact ⟨p, hpm, e2.symm⟩
    have hlen : es'.toList.length = L2.length := by
      rw [hp.length_eq, RO1.rows]; unfold rowsOf; simp
    have hall : ∀ p ∈ L2, (thash P w p.2, Value.ref p.1) ∈ es'.toList := fun p hpm => by
      rw [hp.mem_iff, RO1.rows]
      exact List.mem_map.mpr ⟨p, hpm, rfl⟩
    refine wpAny_forIn_list _ (fun rest _ s' => ∃ h' L' es3 ep3 t3, s' = { s with heap := h' } ∧ Heap.SameBut S h1 h' ∧ SetG P w h' S L' es3 ep3 t3 ∧ (∀ e ∈ rest, e ∈ es'.toList) ∧ L'.length + rest.length ≤ L.length + L2.length ∧
      (∀ p, p ∈ L' → p ∈ L ∨ p ∈ L2) ∧ (∀ k, k ∈ L.map (·.2) → k ∈ L'.map (·.2)) ∧ ∀ p ∈ L2, p.2 ∈ L'.map (·.2) ∨ (thash P w p.2, Value.ref p.1) ∈ rest) _ ?_ ?_ _ _
      ⟨h1, L1, es1, ep1, t1, rfl, Heap.SameBut.refl S h1, R1, fun e he => he, by rw [hlen, pm1.length_eq]; omega, fun p hp => .inl (pm1.mem_iff.mp hp), fun k hk => (key1 k).mpr hk, fun p hp => .inr (hall p hp)⟩
    · rintro ⟨hh, x⟩ rest _ s' ⟨h', L', es3, ep3, t3, rfl, sb, R', hin, hlen', hsub, hk1, hk2⟩
      obtain ⟨p, hpm, e⟩ := hrow _ (hin _ List.mem_cons_self)
      cases e
      have RO' := sg_other R1.toP RO1 hne sb
      obtain ⟨o', ho', hex', hd'⟩ := RO'.ob
      dsimp only
      rw [List.length_cons] at hlen'
      refine wpAny_bind (wpAny_holding (sg_add (s := { s with heap := h' }) R' (RO'.tup p hpm) hu (by omega) fun b h'' L'' es4 ep4 t4 sb2 R'' c1 c2 => ?_))
      have RO'' := sg_other R'.toP RO' hne sb2
      obtain ⟨o'', ho'', hex'', hd''⟩ := RO''.ob
      refine wpAny_bind (hE _ _ RO'' ?_)
      refine wpAny_bind (wpAny_setState_of (s := { s with heap := h'' }) ho'' hd'' RO''.fits ?_)
      dsimp only
      refine wp_if_neg (by simp) ?_
      try refine wpAny_bind (wpAny_pure ?_)
      refine wpAny_pure ?_
      rcases Classical.em (p.2 ∈ L'.map (·.2)) with c | c
      · obtain rfl := c1 c
        refine ⟨h'', L'', es4, ep4, t4, rfl, sb.trans sb2, R'', fun e he => hin e (List.mem_cons_of_mem _ he), by omega, hsub, hk1, fun q hq => ?_⟩
        rcases hk2 q hq with z | z
        · exact .inl z
        · rcases List.mem_cons.mp z with z | z
          · have e1 : Value.ref q.1 = Value.ref p.1 := congrArg Prod.snd z
            injection e1 with e1
            have t1 := RO.tup q hq
            have t2 := RO.tup p hpm
            rw [e1] at t1
            exact .inl (by rw [t1.inj t2]; exact c)
          · exact .inr z
      · have pm := c2 c
        have km : ∀ k, k ∈ L''.map (·.2) ↔ k = p.2 ∨ k ∈ L'.map (·.2) := fun k => by rw [(pm.map (·.2)).mem_iff, List.map_cons, List.mem_cons]
        refine ⟨h'', L'', es4, ep4, t4, rfl, sb.trans sb2, R'', fun e he => hin e (List.mem_cons_of_mem _ he), by rw [pm.length_eq, List.length_cons]; omega, fun q hq => ?_, fun k hk => (km k).mpr (.inr (hk1 k hk)), fun q hq => ?_⟩
        · rcases List.mem_cons.mp (pm.mem_iff.mp hq) with z | z
          · rw [z]; exact .inr hpm
          · exact hsub q z
        · rcases hk2 q hq with z | z
          · exact .inl ((km _).mpr (.inr z))
          · rcases List.mem_cons.mp z with z | z
            · have e1 : Value.ref q.1 = Value.ref p.1 := congrArg Prod.snd z
              injection e1 with e1
              have t1 := RO.tup q hq
              have t2 := RO.tup p hpm
              rw [e1] at t1
              exact .inl ((km _).mpr (.inl (t1.inj t2)))
            · exact .inr z
    · rintro _ s' ⟨h', L', es3, ep3, t3, rfl, sb, R', hin, hlen', hsub, hk1, hk2⟩
      refine wpAny_pure (hQ h' L' es3 ep3 t3 (sb1.trans sb) R' ⟨hsub, fun k => ⟨fun hk => ?_, fun hk => ?_⟩, by simpa using hlen'⟩)
      · obtain ⟨p, hp, rfl⟩ := List.mem_map.mp hk
        exact (hsub p hp).imp (fun z => List.mem_map.mpr ⟨p, z, rfl⟩) fun z => List.mem_map.mpr ⟨p, z, rfl⟩
      · rcases hk with z | z
        · exact hk1 k z
        · obtain ⟨p, hp, rfl⟩ := List.mem_map.mp z
          exact (hk2 p hp).resolve_right (fun z => by cases z)
  · have hf0 : t1.fill = 0 := by simpa using hf
    have hp0 : t1.place.size = 0 := by unfold SetTable.fill at hf0; omega
    have e1 : L1 = [] := by
      have z := R1.tab.sz
      rw [hp0, List.length_map] at z
      exact List.eq_nil_of_length_eq_zero z.symm
    have e0 : L = [] := by rw [e1] at pm1; exact pm1.nil_eq.symm
    subst e0
    have mgo : ∀ L', L'.Perm L2 → Mg [] L2 L' := fun L' pm => ⟨fun p hp => .inr (pm.mem_iff.mp hp), fun k => by rw [(pm.map (·.2)).mem_iff]; simp, by rw [pm.length_eq]; simp⟩
    obtain ⟨o', ho', hex', hd'⟩ := RO1.ob
    have led' : w.params.followText "set-order" = true ∨ (t1.led && t2.led) = true := by
      rcases R1.led with z | z
      · exact .inl z
      · rcases RO1.led with y | y
        · exact .inl y
        · exact .inr (by rw [z, y]; rfl)
    have pl' : (t1.plain && t2.plain) = true := by rw [R1.plain, RO1.plain]; rfl
    by_cases hm : (t1.mask == t2.mask && t2.dummies.isEmpty) = true
    · rw [show t1.road t2 = .slotForSlot by unfold SetTable.road; rw [if_neg hf, if_pos hm]]
      dsimp only
      refine wpAny_storeSet_of (s := { s with heap := h1 }) ho1 hd1 ?_ (by have := RO.few; rw [sizeLine_eq]; omega)
      obtain ⟨sb2, ob2⟩ := sg_put ho1 hex1 hd1 es2 { t2 with finger := t1.finger, led := t1.led && t2.led, moves := t1.moves, plain := t1.plain && t2.plain }
      have T := RO1.tab
      exact hQ _ L2 _ _ _ (sb1.trans sb2) ⟨ob2, RO1.rows, ⟨T.rp, T.rd, T.dj, T.sz, T.mg, T.bp, T.rc⟩, RO1.nd, fun p hp => isT_same (RO1.tup p hp) ho1 hd1 sb2, pl', led', RO1.room, RO1.few⟩ (mgo _ (List.Perm.refl _))
    · rw [show t1.road t2 = .clean by unfold SetTable.road; rw [if_neg hf, if_neg hm]]
      dsimp only
      rw [List.length_nil] at hroom
      obtain ⟨t', order, e, hp, T, em, el, epl, ed⟩ := laid_ok R1.tab.mg t1.finger t1.moves (t1.led && t2.led) (t1.plain && t2.plain) (hs := es2.map (·.1)) (by rw [Array.size_map]; omega)
      rw [Array.size_map, l2] at hp
      obtain ⟨L3, r1, r2, r3⟩ := order_rows L2 es2 order RO1.rows hp
      rw [← r3] at T
      have hs2 : (order.filterMap (es2[·]?)).size = es2.size := by
        have q := congrArg List.length r1
        unfold rowsOf at q
        rw [Array.length_toList, List.length_map, r2.length_eq] at q
        rw [q, l2]
      rw [e]
      try dsimp only
      refine wpAny_bind (wpAny_of_eq (a := (order.filterMap (es2[·]?), t')) ?_ ?_)
      · exact if_neg (c := ((order.filterMap (es2[·]?)).size != es2.size) = true) (by rw [hs2]; simp)
      try dsimp only
      refine wpAny_storeSet_of (s := { s with heap := h1 }) ho1 hd1 ?_ (by have := RO.few; rw [hs2, sizeLine_eq]; omega)
      obtain ⟨sb2, ob2⟩ := sg_put ho1 hex1 hd1 (order.filterMap (es2[·]?)) t'
      have hfill : t'.fill = L2.length := by
        unfold SetTable.fill
        rw [T.sz, List.length_map, ed, r2.length_eq]; rfl
      exact hQ _ L3 _ _ _ (sb1.trans sb2) ⟨ob2, r1, T, (r2.map (·.2)).nodup_iff.mpr RO1.nd, fun p hp => isT_same (RO1.tup p (r2.mem_iff.mp hp)) ho1 hd1 sb2, by rw [epl]; exact pl', by rw [el]; exact led', by rw [hfill, em]; omega, by rw [r2.length_eq]; exact RO.few⟩ (mgo _ r2)
/-- a new set -/
theorem sg_fresh {h : Heap} (w : World) : SetG P w (h.push { cls := .type "set", dict := none, data := .set #[] 0 (.fresh 0 0 (!w.params.followText "set-order")) }) h.objs.size [] #[] 0 (.fresh 0 0 (!w.params.followText "set-order")) := SetG.ofR (setTR_fresh (Heap.get?_push_size _ rfl))
theorem sg_new {Q : Value → Shared → Prop} (hQ : ∀ h' es ep t, (∀ b o, s.heap.get? b = some o → h'.get? b = some o) → SetG P w h' s.heap.objs.size [] es ep t → Q (.ref s.heap.objs.size) { s with heap := h' }) : wpAny (model P w) A (newSet (.type "set")) Q E s := by
  unfold newSet
  refine wpAny_bind (wpAny_byText ?_)
  dsimp only
  simp only [newObj]
  exact wpAny_bind (wpAny_alloc (wpAny_pure (hQ _ _ _ _ (fun b o e => Heap.get?_push_of_some _ e) (sg_fresh w))))
end
end Sx

set_option maxRecDepth 100000
set_option maxHeartbeats 1000000
namespace Sx
open PySem PySem.Spec PyProof.Rows L2
section
variable {P : Program} {w : World} {A : Around} {E : Value → Shared → Prop} {s : Shared} {S O : Addr} {L L2 : List (Addr × List Int)} {es es2 : Array (Int × Value)} {ep ep2 : Nat} {t t2 : SetTable}
theorem sg_type {h : Heap} (R : SetG P w h S L es ep t) {s : Shared} (e : s.heap = h) : s.TypeIs (.ref S) "set" := by
  obtain ⟨o, ho, hex, _⟩ := R.ob
  exact ⟨o, by rw [e]; exact ho, hex.1⟩
theorem sg_isAny (hT : s.TypeIs (.ref S) "set") {Q : Bool → Shared → Prop} (h : Q true s) : wpAny (model P w) A (Builtin.Frozenset.isAnySet (.ref S)) Q E s := by
  unfold Builtin.Frozenset.isAnySet
  refine wpAny_bind (wpAny_isInstance (b := true) hT sub_set_self ?_)
  exact wpAny_pure h
theorem sg_base (hT : s.TypeIs (.ref S) "set") {Q : Value → Shared → Prop} (h : Q (.type "set") s) : wpAny (model P w) A (Builtin.Frozenset.baseOf S) Q E s := by
  unfold Builtin.Frozenset.baseOf
  refine wpAny_bind (wpAny_isInstance (b := true) hT sub_set_self ?_)
  simp only [if_true]
  exact wpAny_pure h
theorem sg_unch (R : SetG P w s.heap S L es ep t) (id : String) {Q : Unit → Shared → Prop} (h : Q () s) : wpAny (model P w) A (Builtin.Frozenset.unchanged id S ep) Q E s := by
  obtain ⟨o, ho, hex, hd⟩ := R.ob
  unfold Builtin.Frozenset.unchanged
  refine wpAny_bind (wpAny_setEpoch_of ho hd R.fits ?_)
  refine wp_if_neg (by simp) ?_
  exact wpAny_pure h
theorem sg_upd (hne : S ≠ O) (RS : SetG P w s.heap S L es ep t) (RO : SetG P w s.heap O L2 es2 ep2 t2) (hu : A.units < cLine) (hfew : L.length + L2.length < 64) (id : String) {Q : Unit → Shared → Prop}
    (hQ : ∀ h' L' es' ep' t', Heap.SameBut S s.heap h' → SetG P w h' S L' es' ep' t' → Mg L L2 L' → Q () { s with heap := h' }) : wpAny (model P w) A (Builtin.Frozenset.updateFrom id S (.ref O)) Q E s := by
  obtain ⟨o, ho, hex, hd⟩ := RO.ob
  unfold Builtin.Frozenset.updateFrom
  refine wpAny_bind (sg_isAny (sg_type RO rfl) ?_)
  refine wp_if_pos rfl ?_
  refine wpAny_bind (m := Builtin.Frozenset.addrOf (.ref O)) (wpAny_pure ?_)
  unfold Builtin.Frozenset.merge
  refine wpAny_bind (wpAny_setEpoch_of ho hd RO.fits ?_)
  exact sg_merge hne RS RO hu hfew _ (fun s1 Q R q => sg_unch R id q) hQ
theorem keep_new {h h' h'' : Heap} {c : Addr} (hc : h.get? c = none) (k : ∀ b o, h.get? b = some o → h'.get? b = some o) (sb : Heap.SameBut c h' h'') : ∀ b o, h.get? b = some o → h''.get? b = some o := fun b o e => (sb.2 b (fun z => by rw [z, hc] at e; cases e)).trans (k b o e)
theorem get_size (h : Heap) : h.get? h.objs.size = none := by
  cases q : h.get? h.objs.size with
  | none => rfl
  | some o => exact absurd (Heap.lt_size q) (Nat.lt_irrefl _)
theorem sg_keepAll {h h' : Heap} (R : SetG P w h S L es ep t) (k : ∀ b o, h.get? b = some o → h'.get? b = some o) : SetG P w h' S L es ep t := by
  obtain ⟨o, ho, r⟩ := R.ob
  exact ⟨⟨o, k S o ho, r⟩, R.rows, R.tab, R.nd, fun p hp => isT_keep (R.tup p hp) k, R.plain, R.led, R.room, R.few⟩
theorem sg_lt {h : Heap} (R : SetG P w h S L es ep t) : S < h.objs.size := by
  obtain ⟨o, ho, _⟩ := R.ob
  exact Heap.lt_size ho
/-- copy, then merge: a | b -/
theorem sg_or {a b : Addr} (hne : a ≠ b) (Ra : SetG P w s.heap a L es ep t) (Rb : SetG P w s.heap b L2 es2 ep2 t2) (hu : A.units < cLine) (hfew : L.length + L2.length < 64) {Q : Fin → Shared → Prop}
    (hQ : ∀ h' L' es' ep' t', (∀ b o, s.heap.get? b = some o → h'.get? b = some o) → SetG P w h' s.heap.objs.size L' es' ep' t' → Mg L L2 L' → Q (.done (.ret (.ref s.heap.objs.size))) { s with heap := h' }) :
    wpAny (model P w) A (Builtin.«frozenset.__or__» ⟨[.ref a, .ref b], []⟩) Q E s := by
  unfold Builtin.«frozenset.__or__»
  refine wpAny_bind (m := Builtin.Frozenset.slot1 "__or__" ⟨[.ref a, .ref b], []⟩) ?_
  unfold Builtin.Frozenset.slot1
  refine wpAny_bind (m := slotArgs "__or__" 1 ⟨[.ref a, .ref b], []⟩) (wpAny_pure ?_)
  refine wpAny_pure ?_
  refine wpAny_bind (m := (Builtin.Frozenset.isAnySet (.ref a) <&&> Builtin.Frozenset.isAnySet (.ref b))) ?_
  refine wpAny_bind (sg_isAny (sg_type Ra rfl) ?_)
  show wpAny _ _ (Builtin.Frozenset.isAnySet (.ref b)) _ _ _
  refine sg_isAny (sg_type Rb rfl) ?_
  refine wp_if_neg (by decide) ?_
  refine wpAny_bind (m := Builtin.Frozenset.addrOf (.ref a)) (wpAny_pure ?_)
  refine wpAny_bind ?_
  refine wpAny_bind (m := Builtin.Frozenset.copyOf a) ?_
  unfold Builtin.Frozenset.copyOf
  refine wpAny_bind (sg_base (sg_type Ra rfl) ?_)
  refine wpAny_bind (sg_new fun h1 es1 ep1 t1 k1 R1 => ?_)
  refine wpAny_bind (m := Builtin.Frozenset.addrOf (.ref s.heap.objs.size)) (wpAny_pure ?_)
  have n1 := get_size s.heap
  have na : s.heap.objs.size ≠ a := Nat.ne_of_gt (sg_lt Ra)
  have nb : s.heap.objs.size ≠ b := Nat.ne_of_gt (sg_lt Rb)
  refine wpAny_bind (sg_merge (s := { s with heap := h1 }) na R1 (sg_keepAll Ra k1) hu (by rw [List.length_nil]; omega) (pure ()) (fun s1 Q _ q => wpAny_pure q) fun h2 La es3 ep3 t3 sb2 R2 M2 => ?_)
  have k2 := keep_new n1 k1 sb2
  refine wpAny_pure ?_
  have hl := M2.len
  rw [List.length_nil] at hl
  refine wp_if_pos (by simpa using hne.symm) ?_
  refine wpAny_bind (m := Builtin.Frozenset.addrOf (.ref s.heap.objs.size)) (wpAny_pure ?_)
  refine wpAny_bind (wpAny_holding ?_)
  refine sg_upd (s := { s with heap := h2 }) nb R2 (sg_keepAll Rb k2) hu (by omega) _ fun h3 Lb es4 ep4 t4 sb3 R3 M3 => ?_
  refine wpAny_pure (wpAny_pure (hQ h3 Lb es4 ep4 t4 (keep_new n1 k2 sb3) R3 ⟨fun p hp => ?_, fun k => ?_, ?_⟩))
  · rcases M3.sub p hp with z | z
    · rcases M2.sub p z with y | y
      · cases y
      · exact .inl y
    · exact .inr z
  · rw [M3.all k, M2.all k]; simp
  · have := M3.len; omega
end
end Sx

set_option maxRecDepth 100000
set_option maxHeartbeats 1000000
namespace Sx
open PySem PySem.Spec PyProof.Rows L2
/-- what is in one of the two alone -/
structure Xr (L L2 L' : List (Addr × List Int)) : Prop where
  sub : ∀ p, p ∈ L' → p ∈ L ∨ p ∈ L2
  all : ∀ k, k ∈ L'.map (·.2) ↔ (k ∈ L.map (·.2) ∧ k ∉ L2.map (·.2)) ∨ (k ∉ L.map (·.2) ∧ k ∈ L2.map (·.2))
  len : L'.length ≤ L.length + L2.length
theorem perm_rows {α β : Type} (f : α → β) {l1 l2 : List β} (h : l1.Perm l2) : ∀ W2 : List α, l2 = W2.map f → ∃ W1 : List α, l1 = W1.map f ∧ W1.Perm W2 := by
  induction h with
  | nil =>
    intro W2 e
    have : W2 = [] := List.map_eq_nil_iff.mp e.symm
    subst this
    exact ⟨[], rfl, List.Perm.refl _⟩
  | cons x _ ih =>
    intro W2 e
    obtain ⟨a, W, rfl, rfl, e2⟩ := List.map_eq_cons_iff.mp e.symm
    obtain ⟨W1, e1, pm⟩ := ih W e2.symm
    exact ⟨a :: W1, by rw [e1, List.map_cons], pm.cons a⟩
  | swap x y l =>
    intro W2 e
    obtain ⟨a, W, rfl, rfl, e2⟩ := List.map_eq_cons_iff.mp e.symm
    obtain ⟨b, W', rfl, rfl, e3⟩ := List.map_eq_cons_iff.mp e2
    exact ⟨b :: a :: W', by rw [← e3]; rfl, List.Perm.swap a b W'⟩
  | trans _ _ ih1 ih2 =>
    intro W2 e
    obtain ⟨W1, e1, p1⟩ := ih2 W2 e
    obtain ⟨W0, e0, p0⟩ := ih1 W1 e1
    exact ⟨W0, e0, p0.trans p1⟩
section
variable {P : Program} {w : World} {A : Around} {E : Value → Shared → Prop} {s : Shared} {S O : Addr} {L L2 : List (Addr × List Int)} {es es2 : Array (Int × Value)} {ep ep2 : Nat} {t t2 : SetTable}
theorem sg_flip (hne : S ≠ O) (RS : SetG P w s.heap S L es ep t) (RO : SetG P w s.heap O L2 es2 ep2 t2) (hu : A.units < cLine) (hfew : L.length + L2.length < 64) (id : String) {Q : Unit → Shared → Prop}
    (hQ : ∀ h' L' es' ep' t', Heap.SameBut S s.heap h' → SetG P w h' S L' es' ep' t' → Xr L L2 L' → Q () { s with heap := h' }) : wpAny (model P w) A (Builtin.Frozenset.symmetricDifferenceUpdate id S (.ref O)) Q E s := by
  obtain ⟨o, ho, hex, hd⟩ := RO.ob
  have hT := sg_type RO (s := s) rfl
  unfold Builtin.Frozenset.symmetricDifferenceUpdate
  refine wp_if_neg (by simpa using hne.symm) ?_
  try refine wpAny_bind (wpAny_pure ?_)
  refine wpAny_bind (wpAny_typeOf hT ?_)
  refine wp_if_neg (by decide) ?_
  try refine wpAny_bind (wpAny_pure ?_)
  refine wpAny_bind ?_
  refine sg_isAny hT ?_
  refine wp_if_pos rfl ?_
  refine wpAny_bind (wpAny_pure ?_)
  refine wpAny_bind (m := Builtin.Frozenset.addrOf (.ref O)) (wpAny_pure ?_)
  refine wpAny_bind (wpAny_setEpoch_of ho hd RO.fits ?_)
  refine wpAny_holding ?_
  refine wpAny_bind (sg_walk RO [S] (some S) fun es' hp => ?_)
  refine wpAny_bind ?_
  show wpAny _ _ (forIn es' _ _) _ _ _
  rw [← Array.forIn_toList]
  obtain ⟨W, eW, pW⟩ := perm_rows (fun p : Addr × List Int => (thash P w p.2, Value.ref p.1)) hp L2 (by rw [RO.rows]; rfl)
  have ndW : (W.map (·.2)).Nodup := (pW.map (·.2)).nodup_iff.mpr RO.nd
  have keyW : ∀ k, k ∈ W.map (·.2) ↔ k ∈ L2.map (·.2) := fun k => (pW.map (·.2)).mem_iff
  refine wpAny_forIn_list _ (fun rest _ s' => ∃ D W' h' L' es3 ep3 t3, W = D ++ W' ∧ rest = rowsOf P w W' ∧ s' = { s with heap := h' } ∧ Heap.SameBut S s.heap h' ∧ SetG P w h' S L' es3 ep3 t3 ∧ (∀ p, p ∈ L' → p ∈ L ∨ p ∈ L2) ∧
      (∀ k, k ∈ L'.map (·.2) ↔ (k ∈ L.map (·.2) ∧ k ∉ D.map (·.2)) ∨ (k ∉ L.map (·.2) ∧ k ∈ D.map (·.2))) ∧ L'.length ≤ L.length + D.length) _ ?_ ?_ _ _
      ⟨[], W, s.heap, L, es, ep, t, rfl, eW, rfl, Heap.SameBut.refl S s.heap, RS, fun p hp => .inl hp, fun k => by simp, Nat.le_refl _⟩
  · rintro ⟨hh, x⟩ rest _ s' ⟨D, W', h', L', es3, ep3, t3, hW, hr, rfl, sb, R', hsub, hk, hl⟩
    cases W' with
    | nil => cases hr
    | cons p W'' =>
      obtain ⟨e1, e2⟩ := List.cons.inj hr
      cases e1
      have hpm : p ∈ L2 := pW.mem_iff.mp (by rw [hW]; simp)
      have lenW : D.length + (W''.length + 1) = L2.length := by rw [← pW.length_eq, hW]; simp
      have RO' := sg_other RS.toP RO hne sb
      have hnD : p.2 ∉ D.map (·.2) := fun z => by
        rw [hW, List.map_append, List.map_cons] at ndW
        exact (List.nodup_append.mp ndW).2.2 _ z _ List.mem_cons_self rfl
      have hpk : p.2 ∈ L'.map (·.2) ↔ p.2 ∈ L.map (·.2) := by
        rw [hk]
        exact ⟨fun z => z.elim (fun y => y.1) fun y => absurd y.2 hnD, fun z => .inl ⟨z, hnD⟩⟩
      have memD : ∀ k, k ∈ (D ++ [p]).map (·.2) ↔ k ∈ D.map (·.2) ∨ k = p.2 := fun k => by simp
      dsimp only
      refine wpAny_bind (wpAny_holding ?_)
      refine wpAny_bind (sg_discard (s := { s with heap := h' }) R' (RO'.tup p hpm) hu fun b h1 L1 es4 ep4 t4 sb1 R1 c1 c2 => ?_)
      have RO1 := sg_other R'.toP RO' hne sb1
      by_cases c : p.2 ∈ L'.map (·.2)
      · obtain ⟨rfl, i, q, hq, eq, rfl⟩ := c1 c
        refine wp_if_neg (by decide) ?_
        refine wpAny_pure ?_
        refine wpAny_bind (sg_unch (s := { s with heap := h1 }) RO1 id ?_)
        refine wpAny_pure ?_
        have pm := erase_perm L' i q hq
        have nd2 := (pm.map (·.2)).nodup_iff.mpr R'.nd
        rw [List.map_cons, List.nodup_cons] at nd2
        have km : ∀ k, k ∈ (L'.eraseIdx i).map (·.2) ↔ k ∈ L'.map (·.2) ∧ k ≠ p.2 := fun k => by
          rw [← (pm.map (·.2)).mem_iff, List.map_cons, List.mem_cons, eq]
          refine ⟨fun z => ⟨.inr z, fun e => nd2.1 (by rw [eq, ← e]; exact z)⟩, fun z => z.1.resolve_left z.2⟩
        have pl := pm.length_eq
        rw [List.length_cons] at pl
        refine ⟨D ++ [p], W'', h1, _, es4, ep4, t4, by rw [hW]; simp, e2, rfl, sb.trans sb1, R1, fun r hr => hsub r (List.mem_of_mem_eraseIdx hr), fun k => ?_, by rw [List.length_append]; omega⟩
        rw [km, hk, memD]
        have cL := hpk.mp c
        by_cases ek : k = p.2
        · subst ek; simp [cL]
        · simp [ek]
      · obtain ⟨rfl, rfl⟩ := c2 c
        refine wp_if_pos rfl ?_
        refine wpAny_bind (sg_add (s := { s with heap := h1 }) R1 (RO1.tup p hpm) hu (by omega) fun b h2 L2' es5 ep5 t5 sb2 R2 d1 d2 => ?_)
        refine wpAny_pure ?_
        have RO2 := sg_other R1.toP RO1 hne sb2
        refine wpAny_bind (sg_unch (s := { s with heap := h2 }) RO2 id ?_)
        refine wpAny_pure ?_
        have pm := d2 c
        have km : ∀ k, k ∈ L2'.map (·.2) ↔ k = p.2 ∨ k ∈ L1.map (·.2) := fun k => by rw [(pm.map (·.2)).mem_iff, List.map_cons, List.mem_cons]
        refine ⟨D ++ [p], W'', h2, L2', es5, ep5, t5, by rw [hW]; simp, e2, rfl, (sb.trans sb1).trans sb2, R2, fun r hr => ?_, fun k => ?_, by rw [pm.length_eq, List.length_cons, List.length_append, List.length_singleton]; omega⟩
        · rcases List.mem_cons.mp (pm.mem_iff.mp hr) with z | z
          · rw [z]; exact .inr hpm
          · exact hsub r z
        · rw [km, hk, memD]
          have cL := fun z => c (hpk.mpr z)
          by_cases ek : k = p.2
          · subst ek; exact ⟨fun _ => .inr ⟨cL, .inr rfl⟩, fun _ => .inl rfl⟩
          · simp [ek]
  · rintro _ s' ⟨D, W', h', L', es3, ep3, t3, hW, hr, rfl, sb, R', hsub, hk, hl⟩
    have eW' : W' = [] := List.map_eq_nil_iff.mp hr.symm
    subst eW'
    rw [List.append_nil] at hW
    subst hW
    refine wpAny_pure (hQ h' L' es3 ep3 t3 sb R' ⟨hsub, fun k => ?_, by rw [← pW.length_eq]; exact hl⟩)
    rw [hk k, keyW k]
/-- a new set from the second, then turned by the first: a ^ b -/
theorem sg_xor {a b : Addr} (hne : a ≠ b) (Ra : SetG P w s.heap a L es ep t) (Rb : SetG P w s.heap b L2 es2 ep2 t2) (hu : A.units < cLine) (hfew : L.length + L2.length < 64) {Q : Fin → Shared → Prop}
    (hQ : ∀ h' L' es' ep' t', (∀ b o, s.heap.get? b = some o → h'.get? b = some o) → SetG P w h' s.heap.objs.size L' es' ep' t' → Xr L L2 L' → Q (.done (.ret (.ref s.heap.objs.size))) { s with heap := h' }) :
    wpAny (model P w) A (Builtin.«frozenset.__xor__» ⟨[.ref a, .ref b], []⟩) Q E s := by
  unfold Builtin.«frozenset.__xor__»
  refine wpAny_bind (m := Builtin.Frozenset.slot1 "__xor__" ⟨[.ref a, .ref b], []⟩) ?_
  unfold Builtin.Frozenset.slot1
  refine wpAny_bind (m := slotArgs "__xor__" 1 ⟨[.ref a, .ref b], []⟩) (wpAny_pure ?_)
  refine wpAny_pure ?_
  refine wpAny_bind (m := (Builtin.Frozenset.isAnySet (.ref a) <&&> Builtin.Frozenset.isAnySet (.ref b))) ?_
  refine wpAny_bind (sg_isAny (sg_type Ra rfl) ?_)
  show wpAny _ _ (Builtin.Frozenset.isAnySet (.ref b)) _ _ _
  refine sg_isAny (sg_type Rb rfl) ?_
  refine wp_if_neg (by decide) ?_
  refine wpAny_bind (m := Builtin.Frozenset.addrOf (.ref a)) (wpAny_pure ?_)
  refine wpAny_bind ?_
  refine wpAny_bind (m := Builtin.Frozenset.baseOf a) (sg_base (sg_type Ra rfl) ?_)
  refine wpAny_bind ?_
  unfold Builtin.Frozenset.newFrom
  refine wpAny_bind (sg_new fun h1 es1 ep1 t1 k1 R1 => ?_)
  have n1 := get_size s.heap
  have na : s.heap.objs.size ≠ a := Nat.ne_of_gt (sg_lt Ra)
  have nb : s.heap.objs.size ≠ b := Nat.ne_of_gt (sg_lt Rb)
  refine wpAny_bind (m := Builtin.Frozenset.addrOf (.ref s.heap.objs.size)) (wpAny_pure ?_)
  refine wpAny_bind (wpAny_holding ?_)
  refine sg_upd (s := { s with heap := h1 }) nb R1 (sg_keepAll Rb k1) hu (by rw [List.length_nil]; omega) _ fun h2 La es3 ep3 t3 sb2 R2 M2 => ?_
  have k2 := keep_new n1 k1 sb2
  have hl := M2.len
  rw [List.length_nil] at hl
  refine wpAny_pure ?_
  refine wpAny_bind (m := Builtin.Frozenset.addrOf (.ref s.heap.objs.size)) (wpAny_pure ?_)
  refine wpAny_bind (wpAny_holding ?_)
  refine sg_flip (s := { s with heap := h2 }) na R2 (sg_keepAll Ra k2) hu (by omega) _ fun h3 Lb es4 ep4 t4 sb3 R3 M3 => ?_
  refine wpAny_pure (wpAny_pure (hQ h3 Lb es4 ep4 t4 (keep_new n1 k2 sb3) R3 ⟨fun p hp => ?_, fun k => ?_, ?_⟩))
  · rcases M3.sub p hp with z | z
    · rcases M2.sub p z with y | y
      · cases y
      · exact .inr y
    · exact .inl z
  · rw [M3.all k, M2.all k]
    simp only [List.map_nil, List.not_mem_nil, false_or]
    exact ⟨fun z => z.elim (fun y => .inr ⟨y.2, y.1⟩) fun y => .inl ⟨y.2, y.1⟩, fun z => z.elim (fun y => .inr ⟨y.2, y.1⟩) fun y => .inl ⟨y.2, y.1⟩⟩
  · have := M3.len; omega
end
end Sx

set_option maxRecDepth 100000
set_option maxHeartbeats 1000000
namespace Sx
open PySem PySem.Spec PyProof.Rows L2
/-! sets as the heap's objects, and what is asked of them -/
structure SetG0 (P : Program) (w : World) (h : Heap) (a : Addr) (L : List (Addr × List Int)) : Prop where
  ex : ∃ (es : Array (Int × Value)) (ep : Nat) (t : SetTable), (∃ o, h.get? a = some o ∧ o.ExactSet ∧ o.data = .set es ep t) ∧ es.toList = rowsOf P w L ∧ TabG t (L.map fun p => thash P w p.2) ∧ (L.map (·.2)).Nodup ∧ t.plain = true ∧
    (w.params.followText "set-order" = true ∨ t.led = true) ∧ t.fill * 5 < t.mask * 3 ∧ L.length < 64
def SetGO (P : Program) (w : World) (a : Addr) (L : List (Addr × List Int)) : HO := .ext fun h => SetG0 P w h a L
section
variable {P : Program} {w : World} {a : Addr} {L : List (Addr × List Int)}
theorem SetG.g0 {h : Heap} {es : Array (Int × Value)} {ep : Nat} {t : SetTable} (R : SetG P w h a L es ep t) : SetG0 P w h a L := ⟨es, ep, t, R.ob, R.rows, R.tab, R.nd, R.plain, R.led, R.room, R.few⟩
theorem SetG0.toG {h : Heap} (R : SetG0 P w h a L) (ht : ∀ p, p ∈ L → IsT P w h p.2 p.1) : ∃ es ep t, SetG P w h a L es ep t := by
  obtain ⟨es, ep, t, h1, h2, h3, h4, h5, h6, h7, h8⟩ := R.ex
  exact ⟨es, ep, t, h1, h2, h3, h4, ht, h5, h6, h7, h8⟩
theorem setGO_new {H : Hp} {h : Heap} (R : SetG0 P w h a L) : ObjOk P w H h a (SetGO P w a L) := by
  obtain ⟨es, ep, t, ⟨o, ho, r⟩, q⟩ := id R.ex
  refine ⟨R, ⟨o, ho⟩, fun h1 h2 p k => ?_⟩
  obtain ⟨es', ep', t', ⟨o', ho', r'⟩, q'⟩ := SetG0.ex p
  exact ⟨es', ep', t', ⟨o', k o' ho', r'⟩, q'⟩
end
/-- a set of these tuples, of the library's kind or of ours -/
def IsS (P : Program) (w : World) (H : Hp) (a : Addr) (L : List (Addr × List Int)) : Prop := H a = some (SetTO P w a L) ∨ H a = some (SetGO P w a L)
theorem entry_set_or : entryFor table "set.__or__" = some Builtin.«frozenset.__or__» := entryFor_alias (id' := "frozenset.__or__") (by kernel_rfl) rfl (by decide +kernel) (by kernel_rfl)
theorem entry_set_xor : entryFor table "set.__xor__" = some Builtin.«frozenset.__xor__» := entryFor_alias (id' := "frozenset.__xor__") (by kernel_rfl) rfl (by decide +kernel) (by kernel_rfl)
section
variable {X : Cx} {pins : List (Addr × Obj)} {σ : L2.St} {H : Hp} {s : Shared}
theorem IsS.get (I : Inv X pins σ H s) {a : Addr} {L : List (Addr × List Int)} (h : IsS X.prog X.w H a L) (hk : ∀ p, p ∈ L → SqT X.K H p.1 (p.2.map V.int)) : ∃ es ep t, SetG X.prog X.w s.heap a L es ep t := by
  have ht : ∀ p, p ∈ L → IsT X.prog X.w s.heap p.2 p.1 := fun p hp => I.isT (hk p hp)
  rcases h with h | h
  · have R0 : SetT0 X.prog X.w s.heap a L := (I.hok a _ h).1
    obtain ⟨es, ep, t, R⟩ := R0.full ht
    exact ⟨es, ep, t, .ofR R⟩
  · have R0 : SetG0 X.prog X.w s.heap a L := (I.hok a _ h).1
    exact R0.toG ht
/-- a op b of two sets: a new one -/
def rSetOp (G : List (Addr × List Int) → List (Addr × List Int) → List (Addr × List Int) → Prop) (K : PySem.W.Frag) (P : Program) (w : World) : R2 := fun x y H Q => ∃ (a b : Addr) (L L2 : List (Addr × List Int)), x = .ref a ∧ y = .ref b ∧ a ≠ b ∧ IsS P w H a L ∧ IsS P w H b L2 ∧ (∀ p, p ∈ L → SqT K H p.1 (p.2.map V.int)) ∧ (∀ p, p ∈ L2 → SqT K H p.1 (p.2.map V.int)) ∧ L.length + L2.length < 64 ∧
  ∀ c L', H c = none → G L L2 L' → (L'.map (·.2)).Nodup → Q (.ref c) (upd H c (SetGO P w c L'))
theorem op_orS (hu : X.A.units + 64 < cLine) : OpR X (binaryOp .BitOr) (rSetOp Mg X.K X.prog X.w) := by
  intro pins s σ H x y v u Q I rx ry h
  obtain ⟨a, b, L, L2, rfl, rfl, hne, ha, hb, ka, kb, hf, q⟩ := h
  cases rx
  cases ry
  obtain ⟨es, ep, t, R⟩ := ha.get I ka
  obtain ⟨es2, ep2, t2, R2⟩ := hb.get I kb
  have hu1 : X.A.in1.units < cLine := by show X.A.units + _ < _; omega
  refine wpAny_binaryOp_same (op := .BitOr) (T := "set") (sg_type R rfl) (sg_type R2 rfl) PySem.F.fills_set_or PySem.F.slot_set_or ?_
  refine wpAny_call_entry PySem.F.slot_set_or (sg_type R rfl) entry_set_or (sg_or hne R R2 hu1 hf fun h' L' es' ep' t' k R' M => ⟨_, rfl, nofun, ?_⟩) (PySem.F.args_set_or_2 _ _)
  exact ⟨.ref s.heap.objs.size, upd H s.heap.objs.size (SetGO X.prog X.w s.heap.objs.size L'), I.laid (t' := s.toks) k (Nat.le_refl _) (setGO_new R'.g0), rfl, q _ L' (I.hok.fresh (Nat.le_refl _)) M R'.nd⟩
theorem op_xorS (hu : X.A.units + 64 < cLine) : OpR X (binaryOp .BitXor) (rSetOp Xr X.K X.prog X.w) := by
  intro pins s σ H x y v u Q I rx ry h
  obtain ⟨a, b, L, L2, rfl, rfl, hne, ha, hb, ka, kb, hf, q⟩ := h
  cases rx
  cases ry
  obtain ⟨es, ep, t, R⟩ := ha.get I ka
  obtain ⟨es2, ep2, t2, R2⟩ := hb.get I kb
  have hu1 : X.A.in1.units < cLine := by show X.A.units + _ < _; omega
  refine wpAny_binaryOp_same (op := .BitXor) (T := "set") (sg_type R rfl) (sg_type R2 rfl) PySem.F.fills_set_xor PySem.F.slot_set_xor ?_
  refine wpAny_call_entry PySem.F.slot_set_xor (sg_type R rfl) entry_set_xor (sg_xor hne R R2 hu1 hf fun h' L' es' ep' t' k R' M => ⟨_, rfl, nofun, ?_⟩) (PySem.F.args_set_xor_2 _ _)
  exact ⟨.ref s.heap.objs.size, upd H s.heap.objs.size (SetGO X.prog X.w s.heap.objs.size L'), I.laid (t' := s.toks) k (Nat.le_refl _) (setGO_new R'.g0), rfl, q _ L' (I.hok.fresh (Nat.le_refl _)) M R'.nd⟩
end
/-! sorted of pairs -/
def x0 (k : List Int) : Int := k.getD 0 0
def x1 (k : List Int) : Int := k.getD 1 0
/-- the order of pairs -/
def leP (k r : List Int) : Prop := x0 k < x0 r ∨ (x0 k = x0 r ∧ x1 k ≤ x1 r)
instance (k r : List Int) : Decidable (leP k r) := by unfold leP; infer_instance
theorem leP_total (a b : List Int) : leP a b ∨ leP b a := by unfold leP; omega
theorem leP_trans {a b c : List Int} (h1 : leP a b) (h2 : leP b c) : leP a c := by unfold leP at *; omega
theorem leP_anti {a b : List Int} (h1 : leP a b) (h2 : leP b a) : x0 a = x0 b ∧ x1 a = x1 b := by unfold leP at *; omega
def encP (p : Addr × List Int) : PyData := .tuple [.int (x0 p.2), .int (x1 p.2)]
theorem leD {a b : Addr × List Int} : PySem.W.dataLe false encP a b = true ↔ leP a.2 b.2 := by
  unfold encP
  rw [PySem.W.dataLe_ii, decide_eq_true_eq]; rfl
theorem sorted_of {bs ms : List (Addr × List Int)} (e : bs.mergeSort (PySem.W.dataLe false encP) = ms) : ms.Perm bs ∧ ms.Pairwise fun a b => leP a.2 b.2 := by
  subst e
  refine ⟨List.mergeSort_perm _ _, ?_⟩
  have q := List.pairwise_mergeSort (le := PySem.W.dataLe false encP) (fun a b c h1 h2 => leD.mpr (leP_trans (leD.mp h1) (leD.mp h2))) (fun a b => by
    rw [Bool.or_eq_true]
    exact (leP_total a.2 b.2).imp leD.mpr leD.mpr) bs
  exact q.imp fun h => leD.mp h
theorem reads_pair {P : Program} {w : World} {h : Heap} {p : Addr × List Int} (x : IsT P w h p.2 p.1) (h2 : ∃ i j, p.2 = [i, j]) : Reads h (.ref p.1) (encP p) [] := by
  obtain ⟨i, j, e⟩ := h2
  obtain ⟨o, items, n, ho, hc, hd, hi⟩ := x
  rw [e] at hi
  generalize hl : items.toList = l at hi
  cases hi with
  | cons r1 t1 =>
    cases t1 with
    | cons r2 t2 =>
      cases t2
      obtain ⟨k1, e1⟩ := Value.isInt_shape r1
      obtain ⟨k2, e2⟩ := Value.isInt_shape r2
      unfold encP x0 x1
      rw [e]
      refine Reads.tuple ho hc hd ?_
      rw [hl, e1, e2]
      exact .cons (.int _ _) (.cons (.int _ _) .nil)
theorem eachR {R : Value → Addr × List Int → Prop} : ∀ {bs : List (Addr × List Int)}, (∀ b, b ∈ bs → R (.ref b.1) b) → PySem.W.EachIs R (bs.map fun b => Value.ref b.1) bs
  | [], _ => .nil
  | b :: bs, h => .cons (h b List.mem_cons_self) (eachR fun b m => h b (List.mem_cons_of_mem _ m))
theorem rEach : ∀ {out : List Value} {bs : List (Addr × List Int)}, PySem.W.EachIs (fun v b => v = Value.ref b.1) out bs → out = bs.map fun b => Value.ref b.1
  | _, _, .nil => rfl
  | _, _, .cons h t => by rw [h, rEach t]; rfl
section
variable {X : Cx}
/-- sorted(set) -/
def rSortS (K : PySem.W.Frag) (P : Program) (w : World) : List V → Hp → VK → Prop := fun vs H Q => ∃ (a : Addr) (L : List (Addr × List Int)), vs = [V.ref a] ∧ IsS P w H a L ∧ (∀ p, p ∈ L → SqT K H p.1 (p.2.map V.int)) ∧ (∀ p, p ∈ L → ∃ i j, p.2 = [i, j]) ∧
  ∀ (L' : List (Addr × List Int)) (p : Addr), L'.Perm L → L'.Pairwise (fun q r => leP q.2 r.2) → H p = none → Q (.ref p) (upd H p (.lst (L'.map fun q => V.ref q.1)))
theorem cr_sortS (hc : X.calm = true) (hu : X.A.units + 64 < cLine) : CallR X (.builtin "sorted") (rSortS X.K X.prog X.w) := by
  intro pins s σ H vs us Q I r h
  obtain ⟨a, L, rfl, ha, hk, h2, q⟩ := h
  obtain ⟨es, ep, t, R⟩ := ha.get I hk
  obtain ⟨o, ho, hex, hd⟩ := R.ob
  have few := R.few
  have hsz := R.len
  rw [Vals.ref1 r]
  refine Calls.call_function_entry kind_sorted plain_sorted entry_sorted (args_sorted1 _) ?_
  unfold Builtin.«sorted»
  refine wpAny_bind (m := checkCount "sorted" 1 1 _) (wpAny_pure ?_)
  refine wpAny_bind (collect_set (A := X.A.in1) (I.ok.hd hc) ⟨o, ho, hex.1, hd⟩ R.fits (by unfold scanBound; omega) R.tab.rp R.led fun s1 vs k1 hz g1 o1 pm => ?_)
  rw [R.rows, show (rowsOf X.prog X.w L).map (·.2) = L.map fun q => Value.ref q.1 by unfold rowsOf; rw [List.map_map]; rfl] at pm
  obtain ⟨L1, rfl, p1⟩ := perm_rows (fun q : Addr × List Int => Value.ref q.1) pm L rfl
  have hn : L1.length < 64 := by rw [p1.length_eq]; exact few
  have hs64 : (64 : Nat) ≤ sizeLine := by decide
  refine wpAny_bind (wpAny_newList ?_ (by rw [List.length_map]; omega))
  have hoL : (s1.heap.push (seqObj "list" (L1.map fun q => Value.ref q.1).toArray 0)).get? s1.heap.objs.size = some (seqObj "list" (L1.map fun q => Value.ref q.1).toArray 0) := Heap.get?_push_size _ rfl
  have k2 : ∀ b u, s.heap.get? b = some u → (s1.heap.push (seqObj "list" (L1.map fun q => Value.ref q.1).toArray 0)).get? b = some u := fun b u e => Heap.get?_push_of_some _ (k1 b u e)
  refine wpAny_bind (wpAny_holding (PySem.W.list_sort_data (β := Addr × List Int) (s := { s1 with heap := s1.heap.push (seqObj "list" (L1.map fun q => Value.ref q.1).toArray 0) }) (R := fun v b => v = Value.ref b.1) (bs := L1) (enc := encP) hoL (eachR fun _ _ => rfl) (eachR fun b m => ⟨[], reads_pair (P := X.prog) (w := X.w) (isT_keep (R.tup b (p1.mem_iff.mp m)) k2) (h2 b (p1.mem_iff.mp m)), by simp⟩)
    (PySem.W.AllAlike.of fun _ _ => by simp [encP, PySem.W.alike, PySem.W.alikeAll]) (PySem.W.Sortable.tuples fun _ => ⟨_, _, rfl⟩) (by omega) (fun b _ => ?_) fun out ho he => ?_))
  · have : (encP b).depth = 1 := by simp [encP, PyData.depth, PyData.depthAll]
    rw [this]
    show X.A.units + _ + 1 + 1 < cLine
    omega
  obtain rfl := rEach he
  generalize hm : L1.mergeSort (PySem.W.dataLe false encP) = L' at *
  obtain ⟨pp, pw⟩ := sorted_of hm
  obtain ⟨c, hc2⟩ := sortedHeap_at (vs := L1.map fun q => Value.ref q.1) (out := (L'.map fun q => Value.ref q.1).toArray) hoL
  have k3 : ∀ b u, s.heap.get? b = some u → (sortedHeap (s1.heap.push (seqObj "list" (L1.map fun q => Value.ref q.1).toArray 0)) s1.heap.objs.size (L1.map fun q => Value.ref q.1) (L'.map fun q => Value.ref q.1).toArray).get? b = some u := fun b u e => by
    have hlt := Heap.lt_size (k1 b u e)
    rw [sortedHeap_old (Nat.ne_of_lt hlt) (by rw [size_push']; exact Nat.lt_succ_of_lt hlt)]
    exact k2 b u e
  have hfresh : H s1.heap.objs.size = none := I.hok.fresh hz
  have J : Inv X pins σ (upd H s1.heap.objs.size (.lst (L'.map fun q => V.ref q.1))) { s with heap := sortedHeap (s1.heap.push (seqObj "list" (L1.map fun q => Value.ref q.1).toArray 0)) s1.heap.objs.size (L1.map fun q => Value.ref q.1) (L'.map fun q => Value.ref q.1).toArray, gens := s1.gens, drawn := s1.drawn, toks := s1.toks } :=
    I.call (ch := []) (Un.laid k3 hz hfresh) (I.hok.laid k3 hz ⟨by rw [List.length_map, pp.length_eq]; omega, _, c, vals_of_refs L', hc2⟩) (by rw [g1]; exact I.bare) (fun _ z => nomatch z)
  refine wpAny_pure ⟨_, rfl, ?_⟩
  refine ⟨.ref s1.heap.objs.size, _, ?_, rfl, q L' s1.heap.objs.size (pp.trans p1) pw hfresh⟩
  have e : s1.os = s.os := o1
  clear hoL k2 hc2 k3 hz hfresh ho he g1 k1 pm
  obtain ⟨a1, a2, a3, a4, a5⟩ := s1
  dsimp only at e J ⊢
  rw [e]
  exact J
end
end Sx

set_option Elab.async false
set_option linter.all false
set_option maxRecDepth 100000
set_option maxHeartbeats 4000000
/-! lists of pairs, by their tuples; sets of them; sorted, in, remove -/
namespace Fl
open PySem PySem.Spec PyProof.Rows L2
/-- the pair of a key -/
def kP (k : List Int) : Pr := (Sx.x0 k, Sx.x1 k)
/-- the tuples of L are pairs -/
structure TP (H : Hp) (L : List (Addr × List Int)) : Prop where
  at_ : ∀ p, p ∈ L → H p.1 = some (.tup (p.2.map V.int))
  two : ∀ p, p ∈ L → ∃ i j, p.2 = [i, j]
/-- the list at a is that of the tuples L -/
structure PL (H : Hp) (a : Addr) (L : List (Addr × List Int)) : Prop extends TP H L where
  ls : H a = some (.lst (L.map fun p => V.ref p.1))
section
variable {H H' : Hp} {a d D : Addr} {L L2 : List (Addr × List Int)} {K : PySem.W.Frag} {o : HO}
theorem TP.fr {S : List Addr} (h : TP H L) (e : Fr S H H') (n : ∀ d, d ∈ S → ∀ xs, H d ≠ some (.tup xs)) : TP H' L := ⟨fun p m => e _ _ (fun k => n _ k _ (h.at_ p m)) (h.at_ p m), h.two⟩
theorem TP.same (h : TP H L) (e : Same H H') : TP H' L := ⟨fun p m => e _ _ (h.at_ p m), h.two⟩
theorem PL.same (h : PL H a L) (e : Same H H') : PL H' a L := ⟨h.toTP.same e, e _ _ h.ls⟩
theorem PL.fr {S : List Addr} (h : PL H a L) (e : Fr S H H') (n : ∀ d, d ∈ S → ∀ xs, H d ≠ some (.tup xs)) (na : a ∉ S) : PL H' a L := ⟨h.toTP.fr e n, e _ _ na h.ls⟩
theorem TP.sub (h : TP H L) (k : ∀ p, p ∈ L2 → p ∈ L) : TP H L2 := ⟨fun p m => h.at_ p (k p m), fun p m => h.two p (k p m)⟩
theorem TP.app (h : TP H L) (k : TP H L2) : TP H (L ++ L2) := ⟨fun p m => (List.mem_append.mp m).elim (h.at_ p) (k.at_ p), fun p m => (List.mem_append.mp m).elim (h.two p) (k.two p)⟩
theorem TP.one {b : Addr} {i j : Int} (h : H b = some (.tup [.int i, .int j])) : TP H [(b, [i, j])] := ⟨fun p m => by rw [List.mem_singleton.mp m]; exact h, fun p m => by rw [List.mem_singleton.mp m]; exact ⟨i, j, rfl⟩⟩
theorem TP.sq (h : TP H L) {p : Addr × List Int} (m : p ∈ L) : SqT K H p.1 (p.2.map V.int) := SqT.of (h.at_ p m)
theorem map_int : ∀ {x y : List Int}, x.map V.int = y.map V.int → x = y
  | [], [], _ => rfl
  | [], _ :: _, e => by cases e
  | _ :: _, [], e => by cases e
  | a :: x, b :: y, e => by
    rw [List.map_cons, List.map_cons] at e
    injection e with e1 e2
    injection e1 with e1
    rw [e1, map_int e2]
theorem TP.inj (h : TP H L) {p q : Addr × List Int} (m : p ∈ L) (n : q ∈ L) (e : p.1 = q.1) : p.2 = q.2 := by
  have a := h.at_ p m
  have b := h.at_ q n
  rw [e, b] at a
  injection a with a
  injection a with a
  exact (map_int a).symm
/-- the data of such a list -/
theorem two_eq {k : List Int} (h : ∃ i j, k = [i, j]) : k = [(kP k).1, (kP k).2] := by
  obtain ⟨i, j, rfl⟩ := h
  rfl
theorem TP.dp (h : TP H L) {p : Addr × List Int} (m : p ∈ L) : Dp K H (.ref p.1) (prD (kP p.2)) := by
  have a := h.at_ p m
  rw [two_eq (h.two p m)] at a
  exact .tup (SqT.of a) (.cons (.int _) (.cons (.int _) .nil))
theorem TP.dps (h : TP H L) : DpAll K H (L.map fun p => V.ref p.1) ((L.map fun p => kP p.2).map prD) := by
  induction L with
  | nil => exact .nil
  | cons p L ih => exact .cons (h.dp (List.mem_cons_self)) (ih (h.sub fun q m => List.mem_cons_of_mem _ m))
theorem PL.dp (h : PL H a L) : Dp K H (.ref a) (lnD (L.map fun p => kP p.2)) := .lst (SqL.of h.ls) h.toTP.dps
theorem kP_inj {k r : List Int} (h : ∃ i j, k = [i, j]) (h2 : ∃ i j, r = [i, j]) (e : kP k = kP r) : k = r := by
  rw [two_eq h, two_eq h2, e]
theorem eqv_pr (p q : Pr) : PyData.eqv (prD p) (prD q) = decide (p = q) := by
  obtain ⟨a, b⟩ := p
  obtain ⟨c, d⟩ := q
  by_cases h : a = c <;> by_cases h2 : b = d <;> simp [prD, PyData.eqv, PyData.eqvAll, h, h2]
theorem any_pr (l : List Pr) (p : Pr) : ((l.map prD).any fun z => PyData.eqv z (prD p)) = decide (p ∈ l) := by
  induction l with
  | nil => simp
  | cons q l ih =>
    rw [List.map_cons, List.any_cons, ih, eqv_pr]
    by_cases h : q = p
    · simp [h]
    · simp [h, Ne.symm h]
theorem mem_kP (h : TP H L) {k : List Int} (hk : ∃ i j, k = [i, j]) : kP k ∈ L.map (fun p => kP p.2) ↔ k ∈ L.map (·.2) := by
  constructor
  · intro m
    obtain ⟨p, mp, e⟩ := List.mem_map.mp m
    exact List.mem_map.mpr ⟨p, mp, kP_inj (h.two p mp) hk e⟩
  · intro m
    obtain ⟨p, mp, e⟩ := List.mem_map.mp m
    exact List.mem_map.mpr ⟨p, mp, by rw [e]⟩
/-- pixel in list -/
theorem g_inP {b : Addr} {k : List Int} {Q : VK} (h : PL H a L) (hb : H b = some (.tup (k.map V.int))) (hk : ∃ i j, k = [i, j]) (q : Q (.bl (decide (k ∈ L.map (·.2)))) H) : rInD K (.ref b) (.ref a) H Q := by
  have hb' : TP H [(b, k)] := ⟨fun p m => by rw [List.mem_singleton.mp m]; exact hb, fun p m => by rw [List.mem_singleton.mp m]; exact hk⟩
  refine ⟨prD (kP k), (L.map fun p => kP p.2).map prD, hb'.dp (p := (b, k)) List.mem_cons_self, h.dp, sh_pr _, sh_ln _, ?_⟩
  rw [any_pr, decide_eq_decide.mpr (mem_kP h.toTP hk)]
  exact q
theorem g_notInP {b : Addr} {k : List Int} {Q : VK} (h : PL H a L) (hb : H b = some (.tup (k.map V.int))) (hk : ∃ i j, k = [i, j]) (q : Q (.bl (!decide (k ∈ L.map (·.2)))) H) : rNotInD K (.ref b) (.ref a) H Q := by
  have hb' : TP H [(b, k)] := ⟨fun p m => by rw [List.mem_singleton.mp m]; exact hb, fun p m => by rw [List.mem_singleton.mp m]; exact hk⟩
  refine ⟨prD (kP k), (L.map fun p => kP p.2).map prD, hb'.dp (p := (b, k)) List.mem_cons_self, h.dp, sh_pr _, sh_ln _, ?_⟩
  rw [any_pr, decide_eq_decide.mpr (mem_kP h.toTP hk)]
  exact q
end
section
variable {X : Cx} {K : PySem.W.Frag} {P : Program} {w : World}
theorem opInD (e : X.K = K) (hu : X.A.units + 65 < cLine) : OpR X (compareOp .In) (rInD K) := by subst e; exact op_inD hu
theorem opNotInD (e : X.K = K) (hu : X.A.units + 65 < cLine) : OpR X (compareOp .NotIn) (rNotInD K) := by subst e; exact op_notInD hu
/-- set(list of pairs) -/
def rSetP (K : PySem.W.Frag) (P : Program) (w : World) : List V → Hp → VK → Prop := fun xs H Q => ∃ (l : Addr) (L : List (Addr × List Int)), xs = [V.ref l] ∧ PL H l L ∧ L.length < 64 ∧
  ∀ a M, H a = none → (∀ p, p ∈ M → p ∈ L) → (∀ k, k ∈ M.map (·.2) ↔ k ∈ L.map (·.2)) → (M.map (·.2)).Nodup → M.length ≤ L.length → Q (.ref a) (upd H a (SetTO P w a M))
theorem clSetP (e : X.K = K) (eP : X.prog = P) (ew : X.w = w) (hc : X.calm = true) (hu : X.A.units + 64 < cLine) : CallR X (.type "set") (rSetP K P w) := by
  subst e eP ew
  intro pins s σ H xs us Q I r h
  obtain ⟨l, L, rfl, hp, hf, q⟩ := h
  obtain ⟨its, rv, pl, hz⟩ := I.list (SqL.of hp.ls)
  rw [Vals.ref1 r]
  refine call_set_tups (P := X.prog) (w := X.w) L (I.ok.hd hc) pl.isList (by simpa using refs_of_vals rv) (fun p hp' => I.isT (hp.toTP.sq hp')) hf (by omega) fun h' tk M es ep t R g k => ?_
  have hn : H s.heap.objs.size = none := I.hok.fresh (Nat.le_refl _)
  have sub : ∀ p, p ∈ M → p ∈ L := fun p m => List.mem_of_mem_take (g.sub p m)
  refine ⟨.ref s.heap.objs.size, _, I.laid (t' := tk) k (Nat.le_refl _) (setTO_new R.t0), rfl, q _ M hn sub (fun k' => ⟨fun m => ?_, fun m => ?_⟩) R.nd g.len⟩
  · obtain ⟨p, mp, rfl⟩ := List.mem_map.mp m
    exact List.mem_map.mpr ⟨p, sub p mp, rfl⟩
  · obtain ⟨p, mp, rfl⟩ := List.mem_map.mp m
    exact g.all p (by rw [List.take_length]; exact mp)
theorem clSetT (e : X.K = K) (eP : X.prog = P) (ew : X.w = w) (hc : X.calm = true) (hu : X.A.units + 64 < cLine) : CallR X (.type "set") (rSetOfT K P w) := by subst e eP ew; exact cr_setOfT hc hu
theorem opOrS (e : X.K = K) (eP : X.prog = P) (ew : X.w = w) (hu : X.A.units + 64 < cLine) : OpR X (binaryOp .BitOr) (Sx.rSetOp Sx.Mg K P w) := by subst e eP ew; exact Sx.op_orS hu
theorem opXorS (e : X.K = K) (eP : X.prog = P) (ew : X.w = w) (hu : X.A.units + 64 < cLine) : OpR X (binaryOp .BitXor) (Sx.rSetOp Sx.Xr K P w) := by subst e eP ew; exact Sx.op_xorS hu
theorem clSortS (e : X.K = K) (eP : X.prog = P) (ew : X.w = w) (hc : X.calm = true) (hu : X.A.units + 64 < cLine) : CallR X (.builtin "sorted") (Sx.rSortS K P w) := by subst e eP ew; exact Sx.cr_sortS hc hu
/-- sorted(list of pairs) -/
def rSort2 (K : PySem.W.Frag) : List V → Hp → VK → Prop := fun vs H Q => ∃ (a : Addr) (L : List (Addr × List Int)), vs = [V.ref a] ∧ PL H a L ∧ L.length < 1000 ∧ ∀ (L' : List (Addr × List Int)) (p : Addr), L'.Perm L → L'.Pairwise (fun q r => Sx.leP q.2 r.2) → H p = none → Q (.ref p) (upd H p (.lst (L'.map fun q => V.ref q.1)))
theorem clSort2 (eK : X.K = K) (hu : X.A.units + 64 < cLine) : CallR X (.builtin "sorted") (rSort2 K) := by
  subst eK
  intro pins s σ H vs us Q I r h
  obtain ⟨a, L, rfl, hp, hz, q⟩ := h
  obtain ⟨its, rv, hl, hsz⟩ := I.list (SqL.of hp.ls)
  rw [Vals.ref1 r]
  obtain rfl := refs_of_vals rv
  have hn : (1000 : Nat) ≤ sizeLine := by decide
  refine PySem.W.sorted_data (β := Addr × List Int) (R := fun v b => v = Value.ref b.1) (bs := L) (enc := Sx.encP) hl.isList (Sx.eachR fun _ _ => rfl) (Sx.eachR fun b m => ⟨[], Sx.reads_pair (P := X.prog) (w := X.w) (I.isT (hp.toTP.sq m)) (hp.two b m)⟩)
    (PySem.W.AllAlike.of fun _ _ => by simp [Sx.encP, PySem.W.alike, PySem.W.alikeAll]) (PySem.W.Sortable.tuples fun _ => ⟨_, _, rfl⟩) (by omega) (fun b _ => ?_) (fun out ho he => ?_)
  · have : (Sx.encP b).depth = 1 := by simp [Sx.encP, PyData.depth, PyData.depthAll]
    rw [this]
    omega
  · obtain rfl := Sx.rEach he
    generalize hm : L.mergeSort (PySem.W.dataLe false Sx.encP) = L' at *
    obtain ⟨pp, pw⟩ := Sx.sorted_of hm
    obtain ⟨n, hn2⟩ := PyProof.Rows.sortedAll_at s.heap (L.map fun b => Value.ref b.1) (L'.map fun b => Value.ref b.1).toArray
    refine ⟨.ref (s.heap.objs.size + 1), upd H (s.heap.objs.size + 1) (.lst (L'.map fun b => V.ref b.1)), I.laid (t' := s.toks) (fun b o e => PyProof.Rows.sortedAll_old e) (Nat.le_succ _) ⟨?_, _, n, vals_of_refs L', hn2⟩, rfl, q L' _ pp pw (I.hok.fresh (Nat.le_succ _))⟩
    rw [List.length_map, pp.length_eq]
    omega
theorem g_sort2 {H : Hp} {a : Addr} {L : List (Addr × List Int)} {Q : VK} (h : PL H a L) (hz : L.length < 1000) (q : ∀ (L' : List (Addr × List Int)) (p : Addr), L'.Perm L → L'.Pairwise (fun q r => Sx.leP q.2 r.2) → H p = none → PL (upd H p (.lst (L'.map fun q => V.ref q.1))) p L' → Q (.ref p) (upd H p (.lst (L'.map fun q => V.ref q.1)))) : rSort2 K [.ref a] H Q :=
  ⟨a, L, rfl, h, hz, fun L' p pm pw e => q L' p pm pw e ⟨(h.toTP.sub fun r m => pm.mem_iff.mp m).same (Fl.Same.new e), upd_same⟩⟩
theorem g_setP {H : Hp} {a : Addr} {L : List (Addr × List Int)} {Q : VK} (h : PL H a L) (hz : L.length < 64) (q : ∀ (c : Addr) (M : List (Addr × List Int)), H c = none → (∀ p, p ∈ M → p ∈ L) → (∀ k, k ∈ M.map (·.2) ↔ k ∈ L.map (·.2)) → (M.map (·.2)).Nodup → M.length ≤ L.length → Q (.ref c) (upd H c (SetTO P w c M))) : rSetP K P w [.ref a] H Q :=
  ⟨a, L, rfl, h, hz, q⟩
theorem g_setOp {G : List (Addr × List Int) → List (Addr × List Int) → List (Addr × List Int) → Prop} {H : Hp} {a b : Addr} {L L2 : List (Addr × List Int)} {Q : VK} (n : a ≠ b) (ha : Sx.IsS P w H a L) (hb : Sx.IsS P w H b L2) (ta : TP H L) (tb : TP H L2) (hz : L.length + L2.length < 64)
    (q : ∀ (c : Addr) (M : List (Addr × List Int)), H c = none → G L L2 M → (M.map (·.2)).Nodup → Q (.ref c) (upd H c (Sx.SetGO P w c M))) : Sx.rSetOp G K P w (.ref a) (.ref b) H Q :=
  ⟨a, b, L, L2, rfl, rfl, n, ha, hb, fun p m => ta.sq m, fun p m => tb.sq m, hz, q⟩
theorem g_sortS {H : Hp} {a : Addr} {L : List (Addr × List Int)} {Q : VK} (h : Sx.IsS P w H a L) (t : TP H L) (q : ∀ (L' : List (Addr × List Int)) (p : Addr), L'.Perm L → L'.Pairwise (fun q r => Sx.leP q.2 r.2) → H p = none → PL (upd H p (.lst (L'.map fun q => V.ref q.1))) p L' → Q (.ref p) (upd H p (.lst (L'.map fun q => V.ref q.1)))) : Sx.rSortS K P w [.ref a] H Q :=
  ⟨a, L, rfl, h, fun p m => t.sq m, t.two, fun L' p pm pw e => q L' p pm pw e ⟨(t.sub fun r m => pm.mem_iff.mp m).same (Fl.Same.new e), upd_same⟩⟩
end
end Fl

set_option Elab.async false
set_option linter.all false
set_option maxRecDepth 100000
set_option maxHeartbeats 4000000
/-! xs.remove(pixel) -/
namespace PySem.SeqAt
open AutoSeq1 (wpAny_loadPart')
open MeetsSeq MeetsSeq2 MeetsSeq3 SeqRoads2
/-- the loop of list.remove, equality asked of the heap as it stands -/
theorem remLoop (l : Addr) (xs : Array Value) (n : Nat) (x : Value) (e : Value → Bool) (j : Nat) (hj : j < xs.size) (hit : e xs[j] = true) (hz : xs.size ≤ sizeLine) (k : Nat) :
    ∀ i : Nat, j - i = k → i ≤ j → (∀ m (hm : m < xs.size), i ≤ m → m < j → e xs[m] = false) → Meets (Builtin.«list.remove.loop» ⟨[.ref l, x, rawInt i], []⟩)
      (fun A R s => s.heap.get? l = some { cls := .type "list", dict := none, data := .seq xs n, slots := #[] } ∧ (∀ y, y ∈ xs → EqAt A.in1 s y x (e y)) ∧ R (.ok (.ret .none)) { s with heap := s.heap.update l (Obj.mapSeq fun ys => ys.eraseIdxIfInBounds j) }) := by
  induction k with
  | zero =>
    intro i e0 hij hno P w A R s ⟨h1, h2, h3⟩
    obtain ⟨hp, gg, dd, tt, oo⟩ := s
    obtain rfl : i = j := by omega
    wp_walk using wpAny_loadPart' h1
    rw [show xs[((i : Nat) : Int).toNat]? = some xs[i] by simp [hj]]
    refine wpAny_bind (h2 _ (Array.getElem_mem hj) P w _ _ ?_)
    rw [hit]
    have hz' : (xs.eraseIdxIfInBounds i).size ≤ sizeLine + 1 := Nat.le_trans (size_erased xs _) (Nat.le_succ_of_le hz)
    wp_walk using (wpAny_updateSeq h1 rfl (hz := hz) (_hz' := hz')), wpAny_loadPart' h1
    simpa using h3
  | succ k ih =>
    intro i e0 hij hno P w A R s ⟨h1, h2, h3⟩
    obtain ⟨hp, gg, dd, tt, oo⟩ := s
    have hi : i < xs.size := by omega
    wp_walk using wpAny_loadPart' h1
    rw [show xs[((i : Nat) : Int).toNat]? = some xs[i] by simp [hi]]
    refine wpAny_bind (h2 _ (Array.getElem_mem hi) P w _ _ ?_)
    rw [hno i hi (Nat.le_refl i) (by omega)]
    wp_walk
    rw [show ((i : Int) + 1) = ((i + 1 : Nat) : Int) by push_cast; rfl]
    refine ⟨plainId_quiet plain_remove_loop _, codeAny_builtin entry_remove_loop ?_⟩
    rw [Around.under_plainId plain_remove_loop _]
    exact ih (i + 1) (by omega) (by omega) (fun m hm a b => hno m hm (by omega) b) P w A R _ ⟨h1, h2, h3⟩
theorem remAt (l : Addr) (xs : Array Value) (n : Nat) (x : Value) (e : Value → Bool) (j : Nat) (hj : j < xs.size) (hit : e xs[j] = true) (hz : xs.size ≤ sizeLine) (hno : ∀ m (hm : m < xs.size), m < j → e xs[m] = false) : Meets (Builtin.«list.remove» ⟨[.ref l, x], []⟩)
      (fun A R s => s.heap.get? l = some { cls := .type "list", dict := none, data := .seq xs n, slots := #[] } ∧ (∀ y, y ∈ xs → EqAt A.in1 s y x (e y)) ∧ R (.ok (.ret .none)) { s with heap := s.heap.update l (Obj.mapSeq fun ys => ys.eraseIdxIfInBounds j) }) := by
  intro P w A R s ⟨h1, h2, h3⟩
  obtain ⟨hp, gg, dd, tt, oo⟩ := s
  wp_walk using wpAny_loadPart' h1
  refine ⟨plainId_quiet plain_remove_loop _, codeAny_builtin entry_remove_loop ?_⟩
  rw [Around.under_plainId plain_remove_loop _]
  exact remLoop l xs n x e j hj hit hz _ 0 rfl (Nat.zero_le _) (fun m hm _ b => hno m hm b) P w A R _ ⟨h1, h2, h3⟩
end PySem.SeqAt
namespace Fl
open PySem PySem.Spec PyProof.Rows L2
theorem hu65 {k : Nat} {A : Around} (hr : Room k A) : A.units + 65 < cLine := by
  have := hr.un
  omega
/-- o.remove(pair), the pair is in, at i first -/
def rRemP (K : PySem.W.Frag) : V → List V → Hp → VK → Prop := fun x xs H Q => ∃ (a b : Addr) (L : List (Addr × List Int)) (k : List Int) (i : Nat) (p : Addr × List Int), x = V.ref a ∧ xs = [V.ref b] ∧ PL H a L ∧ H b = some (.tup (k.map V.int)) ∧ (∃ u v, k = [u, v]) ∧ L.length < 1000 ∧ L[i]? = some p ∧ p.2 = k ∧ (∀ (m : Nat) q, m < i → L[m]? = some q → q.2 ≠ k) ∧
  Q .non (upd H a (.lst ((L.eraseIdx i).map fun p => V.ref p.1)))
theorem mtRemP {X : Cx} {K : PySem.W.Frag} (eK : X.K = K) (hu : X.A.units + 65 < cLine) : MtR X "list.remove" (rRemP K) := by
  subst eK
  intro pins s σ H x xs v us Q I rx rxs h
  obtain ⟨a, b, L, k, i, p, rfl, rfl, hp, hb, hk, hz, hi, e, hno, q⟩ := h
  cases rx
  obtain ⟨u, rfl, ru⟩ := rxs.one
  obtain rfl : u = Value.ref b := ru
  obtain ⟨z, its, n, r, hl, e0⟩ := I.lstM hp.ls
  obtain rfl := refs_of_vals r
  have hsz : (1000 : Nat) ≤ sizeLine := by decide
  have hs : (L.map fun p => Value.ref p.1).toArray.size ≤ sizeLine := by simp; omega
  have hb' : TP H [(b, k)] := ⟨fun p m => by rw [List.mem_singleton.mp m]; exact hb, fun p m => by rw [List.mem_singleton.mp m]; exact hk⟩
  obtain ⟨bs, r1⟩ := Dp.reads I (prD (kP k)) (.ref b) (Value.ref b) (hb'.dp (p := (b, k)) List.mem_cons_self) rfl
  obtain ⟨as, r2⟩ := Dp.readsAll I ((L.map fun p => kP p.2).map prD) _ (L.map fun p => Value.ref p.1) hp.toTP.dps (vals_of_refs L)
  have hcan : PyData.canLayAll0 ((L.map fun p => kP p.2).map prD) = true := SeqAt.canLay_of_shaped (d := .list _) (sh_ln _)
  have hmap := SeqAt.readsAll_map _ _ as hcan r2
  have hil := (List.getElem?_eq_some_iff.mp hi).1
  have at_ : ∀ (m : Nat) (hm : m < (L.map fun p => Value.ref p.1).toArray.size) q, L[m]? = some q → SeqAt.readOf s.heap (L.map fun p => Value.ref p.1).toArray[m] = prD (kP q.2) := fun m hm q hq => by
    have e1 := congrArg (fun l => l[m]?) hmap
    simp only [List.getElem?_map, hq, Option.map_some] at e1
    have hm' : m < L.length := (List.getElem?_eq_some_iff.mp hq).1
    have e2 : L[m] = q := Option.some.inj ((List.getElem?_eq_getElem hm').symm.trans hq)
    simpa [e2] using e1
  refine call_meets PySem.F.slot_list_remove ⟨_, e0, rfl⟩ PySem.F.entry_list_remove (PySem.F.args_list_remove_2 _ _)
    (SeqAt.remAt a (L.map fun p => Value.ref p.1).toArray n (.ref b) (fun u => PyData.eqv (SeqAt.readOf s.heap u) (prD (kP k))) i (by simpa using hil) ?_ hs fun m hm hmi => ?_) ⟨e0, SeqAt.items_eqAt (vs := (L.map fun p => Value.ref p.1).toArray) (by simpa using r2) r1 hcan (SeqAt.canLay_of_shaped (sh_pr _)) (room_in_shaped (sh_pr _) hu), ?_⟩
  · rw [at_ i _ p hi, eqv_pr, e]; simp
  · have hm' : m < L.length := by simpa using hm
    have hq := List.getElem?_eq_getElem hm'
    rw [at_ m hm _ hq, eqv_pr, decide_eq_false_iff_not]
    intro z
    exact hno m _ hmi hq (kP_inj (hp.two _ (List.mem_of_getElem? hq)) hk z)
  · have r3 := (vals_of_refs (L.eraseIdx i))
    refine ⟨.non, _, I.lset (its' := (L.eraseIdx i).map fun p => Value.ref p.1) (t' := s.toks) hp.ls e0 ?_ r3 ?_, rfl, q⟩
    · show (L.map fun p => Value.ref p.1).toArray.eraseIdxIfInBounds i = _
      rw [List.eraseIdxIfInBounds_toArray, Sx.map_er]
    · rw [List.length_map, List.length_eraseIdx]
      split <;> omega
theorem g_remP {K : PySem.W.Frag} {H : Hp} {a b : Addr} {L : List (Addr × List Int)} {k : List Int} {Q : VK} (hp : PL H a L) (hb : H b = some (.tup (k.map V.int))) (hk : ∃ u v, k = [u, v]) (hz : L.length < 1000) (hm : k ∈ L.map (·.2))
    (q : ∀ (i : Nat) (p : Addr × List Int), L[i]? = some p → p.2 = k → Q .non (upd H a (.lst ((L.eraseIdx i).map fun p => V.ref p.1)))) : rRemP K (.ref a) [.ref b] H Q := by
  obtain ⟨i, hi, hl⟩ := st_least (p := fun i => ∃ p, L[i]? = some p ∧ p.2 = k) (Classical.choose (List.mem_iff_getElem?.mp (List.mem_map.mp hm).choose_spec.1)) ⟨_, Classical.choose_spec (List.mem_iff_getElem?.mp (List.mem_map.mp hm).choose_spec.1), (List.mem_map.mp hm).choose_spec.2⟩
  obtain ⟨⟨p, h1, h2⟩, h3⟩ := hl
  exact ⟨a, b, L, k, i, p, rfl, rfl, hp, hb, hk, hz, h1, h2, fun m q hm hq e => h3 m hm ⟨q, hq, e⟩, q i p h1 h2⟩
end Fl

set_option Elab.async false
set_option linter.all false
set_option maxRecDepth 100000
set_option maxHeartbeats 4000000
/-! lists of pairs that are written; comprehensions over them -/
namespace Fl
open PySem PySem.Spec PyProof.Rows L2
theorem Dw.nt {d : Addr} {H : Hp} (h : Dw d H) (xs : List V) : H d ≠ some (.tup xs) := by
  obtain ⟨zs, e, _⟩ := h
  rw [e]
  nofun
section
variable {H H' : Hp} {a b c d D : Addr} {L M : List (Addr × List Int)} {K : PySem.W.Frag} {o : HO} {xs : List V}
theorem TP.on (h : TP H L) (k : Dw d H) (e : On d H H') : TP H' L := h.fr e.fr fun b m xs => by rw [List.mem_singleton.mp m]; exact k.nt xs
theorem PL.on (h : PL H a L) (k : Dw d H) (e : On d H H') (n : a ≠ d) : PL H' a L := h.fr e.fr (fun b m xs => by rw [List.mem_singleton.mp m]; exact k.nt xs) (by simpa using n)
theorem PL.newH (h : PL H a L) (e : H D = none) : PL (upd H D o) a L := h.same (Fl.Same.new e)
/-- the list at another place is written -/
theorem TP.put (h : TP H L) (hb : H b = some (.lst xs)) : TP (upd H b o) L := h.fr (S := [b]) (Fr.upd (by simp)) fun c m ys => by rw [List.mem_singleton.mp m, hb]; nofun
theorem PL.put (h : PL H a L) (hb : H b = some (.lst xs)) (n : a ≠ b) : PL (upd H b o) a L := h.fr (S := [b]) (Fr.upd (by simp)) (fun c m ys => by rw [List.mem_singleton.mp m, hb]; nofun) (by simpa using n)
/-- the list itself is written: some of its own -/
theorem PL.set (h : PL H a L) (k : ∀ p, p ∈ M → p ∈ L) : PL (upd H a (.lst (M.map fun p => V.ref p.1))) a M := ⟨(h.toTP.sub k).put h.ls, upd_same⟩
theorem PL.snoc {i j : Int} (h : PL H a L) (hb : H b = some (.tup [.int i, .int j])) : PL (upd H a (.lst ((L.map fun p => V.ref p.1) ++ [.ref b]))) a (L ++ [(b, [i, j])]) :=
  ⟨(h.toTP.app (TP.one hb)).put h.ls, by rw [upd_same, List.map_append]; rfl⟩
theorem PL.new (t : TP H L) (e : H D = none) : PL (upd H D (.lst (L.map fun p => V.ref p.1))) D L := ⟨t.same (Fl.Same.new e), upd_same⟩
theorem nd_snoc {k : List Int} (h : (L.map (·.2)).Nodup) (n : k ∉ L.map (·.2)) : ((L ++ [(b, k)]).map (·.2)).Nodup := by
  rw [List.map_append]
  refine List.nodup_append.mpr ⟨h, by simp, fun x hx y hy e => n ?_⟩
  have : y = k := by simpa using hy
  rw [← this, ← e]
  exact hx
end
theorem sh_two (l m : List Pr) : SeqAt.shaped (.tuple [lnD l, lnD m]) = true := by
  have hz : PyData.canLay0 (.tuple [lnD l, lnD m]) = true := by
    have a := SeqAt.canLay_of_shaped (sh_ln l)
    have b := SeqAt.canLay_of_shaped (sh_ln m)
    simp [PyData.canLay0, PyData.canLayAll0, a, b]
  have one : ∀ l : List Pr, (lnD l).depth ≤ 2 := fun l => by
    have : ∀ l : List Pr, PyData.depthAll (l.map prD) ≤ 1 := fun l => by
      induction l with
      | nil => simp [PyData.depthAll]
      | cons p l ih =>
        have := (pr_lay p).2
        rw [List.map_cons, PyData.depthAll]
        omega
    have := this l
    unfold lnD
    rw [PyData.depth]
    omega
  have h1 := one l
  have h2 := one m
  unfold SeqAt.shaped
  rw [Bool.and_eq_true, decide_eq_true_eq]
  refine ⟨hz, ?_⟩
  simp only [PyData.depth, PyData.depthAll]
  omega
section
variable {H1 : Hp} {K : PySem.W.Frag} {tt : TT} {te : TE} {vs : List Nat} {σ : L2.St} {Q : VK} {a : Addr} {L : List (Addr × List Int)} {j : Nat}
/-- [p for p in list of pairs if test] -/
theorem lcP (good : Addr × List Int → Bool) (ha : PL H1 a L) (hz : L.length < 1000)
    (step : ∀ (D : Addr) (H : Hp) (p : Addr × List Int), H1 D = none → Same H1 H → p ∈ L → ∀ (R : V → Hp → Prop) (N : Hp → Prop), (good p = true → R (.ref p.1) H) → (good p = false → N H) →
      wipe ((wipe σ vs).set j (some (.ref p.1))) vs = wipe σ vs ∧ tt ((wipe σ vs).set j (some (.ref p.1))) H fun b H3 => if b = true then te ((wipe σ vs).set j (some (.ref p.1))) H3 R else N H3)
    (q : ∀ (D : Addr) (H : Hp), Same H1 H → H1 D = none → PL H D (L.filter good) → Q (.ref D) H) : lcK (Itl K a) (gName j) tt te vs σ H1 Q := by
  unfold lcK
  intro D hD
  have hDa : a ≠ D := fun e => by have := ha.ls; rw [e, hD] at this; cases this
  have ns : ∀ {H : Hp} {i : Nat}, H D = some (.lst (((L.take i).filter good).map fun p => V.ref p.1)) → ∀ p, p ∈ L → p.1 ≠ D := fun {H i} _ p m e => by
    have := ha.at_ p m
    rw [e, hD] at this
    cases this
  refine lc_list (xs := L.map fun p => V.ref p.1) (fun i H => H D = some (.lst (((L.take i).filter good).map fun p => V.ref p.1)) ∧ Fr [D] H1 H) ⟨by simpa using upd_same, Fr.same (Fl.Same.new hD)⟩ ?_ ?_ ?_
  · intro i H _ ⟨_, hf⟩
    exact SqL.of (hf a _ (by simpa using hDa) ha.ls)
  · intro i x H hx ⟨hacc, hf⟩
    rw [List.getElem?_map] at hx
    cases hp : L[i]? with
    | none => rw [hp] at hx; cases hx
    | some p =>
      rw [hp] at hx
      cases hx
      have hi := (List.getElem?_eq_some_iff.mp hp).1
      have et : (L.take (i + 1)) = L.take i ++ [p] := by rw [List.take_succ, hp]; rfl
      have ll : ((L.take i).filter good).length ≤ i := Nat.le_trans (List.length_filter_le _ _) (List.length_take_le _ _)
      have hsz : (1000 : Nat) ≤ sizeLine := by decide
      refine step D H p hD (sm_of hD hf) (List.mem_of_getElem? hp) _ _ (fun hg => ⟨_, hacc, by rw [List.length_map]; omega, ?_, hf.trans (Fr.upd (by simp))⟩) (fun hg => ⟨?_, hf⟩)
      · rw [upd_same, et, List.filter_append]
        simp [hg]
      · rw [et, List.filter_append, hacc]
        simp [hg]
  · intro H ⟨hacc, hf⟩
    rw [List.length_map, List.take_of_length_le (Nat.le_refl _)] at hacc
    have sm := sm_of hD hf
    exact q D H sm hD ⟨(ha.toTP.sub fun p m => (List.mem_filter.mp m).1).same sm, hacc⟩
end
end Fl

set_option Elab.async false
set_option linter.all false
set_option maxRecDepth 100000
set_option maxHeartbeats 4000000
/-! {tuple: v for .. in ..}: a dict whose keys are tuples -/
namespace Fl
open PySem PySem.Spec PyProof.Rows L2
theorem dT_set {X : Cx} {pins : List (Addr × Obj)} {σ : L2.St} {H : Hp} {s : Shared} {E : Value → Shared → Prop} {D b : Addr} {kvs : List (List L2.Key × V)} {k : List L2.Key} {v : V} {r : Value} {Q : Unit → Shared → Prop} (hu : X.A.units + 64 < cLine) (I : Inv X pins σ H s)
    (hD : H D = some (.dT kvs)) (eb : H b = some (.tup (k.map kV))) (hl : kvs.length < sizeLine) (rv : RelV v r) (h : ∀ s', Inv X pins σ (upd H D (.dT (putK kvs k v))) s' → Q () s') : wpAny (model X.prog X.w) X.A (dictSet D (.ref b) r) Q E s := by
  obtain ⟨z, hsys, xs, rel, dd⟩ := dt_of I.hok hD
  have hz : xs.length ≤ sizeLine := Paired.length rel ▸ z
  have hp : (putK kvs k v).length ≤ sizeLine := by have := length_putK kvs k v; omega
  refine wpAny_dictSet_heap (hsz := hz) (show X.A.units < cLine by omega) (key_of I.hok eb) dd fun h' d2 sb => h _ ?_
  obtain ⟨o, es, ep, ho, r1, r2, r3, _, r5⟩ := d2
  exact d_write I (by rw [hD]; trivial) sb ⟨o, ho⟩ ⟨hp, hsys, _, (rel.put k eb rv).keeps fun c ys e => by rw [upd_ne (ne_of e hD nofun)]; exact e, o, es, ep, ho, r1, r2, r3, r5⟩
section
variable {X : Cx}
/-- the dict comprehension's reading, keys tuples: D the new dict -/
def tDcT (wi : TI) (g : TG) (tt : TT) (tk tv : TE) (vs : List Nat) : TE := fun σ H Q => wi σ H fun J H1 => ∀ D, H1 D = none → ∃ W : Nat → Nat → Hp → Prop, (∃ m, W 0 m (upd H1 D (.dT []))) ∧ ∀ i m H, W i m H →
  (J.stop i H ∧ Q (.ref D) H) ∨ (J.go i H ∧ ∃ Nx : Hp → Prop, (∀ H', Nx H' → ∃ m', m' < m ∧ W (i + 1) m' H') ∧ ∀ x H', J.yld i H x H' → g x (wipe σ vs) H' fun σ2 H2 => wipe σ2 vs = wipe σ vs ∧ tt σ2 H2 fun b H3 =>
    if b = true then tk σ2 H3 fun y H4 => tv σ2 H4 fun z H5 => ∃ kvs k c, y = .ref c ∧ H5 c = some (.tup (k.map kV)) ∧ H5 D = some (.dT kvs) ∧ kvs.length < sizeLine ∧ Nx (upd H5 D (.dT (putK kvs k z))) else Nx H3)
theorem pe_dcT {kx vx tg iter : Expr} {ifs : List Expr} {scope : Scope} {own : List (Str × Nat)} {pos : Pos} {wi : TI} {g : TG} {tt : TT} {tk tv : TE} (hc : X.calm = true) (hu : X.A.units + 64 < cLine) (hN : X.N.Nodup) (hi : PI X tg iter wi) (ok : BlkOk X.N X.env.scope scope own)
    (hg : ∀ (s : Shared) (H : Hp) (C : Addr) (cl : List (Str × Addr)) (fp : List Addr), PG (X.blk s H scope (compEnvC scope cl C X.env) fp) tg g)
    (ht : ∀ (s : Shared) (H : Hp) (C : Addr) (cl : List (Str × Addr)) (fp : List Addr), PTs (X.blk s H scope (compEnvC scope cl C X.env) fp) ifs tt)
    (hk : ∀ (s : Shared) (H : Hp) (C : Addr) (cl : List (Str × Addr)) (fp : List Addr), PE (X.blk s H scope (compEnvC scope cl C X.env) fp) kx tk)
    (he : ∀ (s : Shared) (H : Hp) (C : Addr) (cl : List (Str × Addr)) (fp : List Addr), PE (X.blk s H scope (compEnvC scope cl C X.env) fp) vx tv) (hs : ∀ x, foldedSetIterable iter X.env x = pure x := by intro _; rfl) :
    PE X (.DictComp kx vx [⟨tg, iter, ifs, 0⟩] scope pos) (tDcT wi g tt tk tv (own.map (·.2))) := by
  refine ⟨fun pins s0 σ H0 Q I0 h0 => ?_⟩
  rw [arm_eval_DictComp]
  have free : ∀ y ∈ scope.names, y.2 = .free → ∃ c, X.env.cells.lookup y.1 = some c := fun y my e => I0.ok.has _ (by
    rcases ok.free y my e with k | k
    · exact .inl k
    · exact .inr k)
  refine wpAny_comprehension_free (use := none) rfl hs (closure_ok free) ok.kind (fun y my e => by rw [ok.uniq y my, e]) (thn (hi.run pins s0 σ H0 _ I0 h0) fun _ sa ha => thn ha fun _ sb ⟨it, fp, tn, J, Hb, e, Ib, T, stb, fb, q⟩ => ?_)
  subst e
  refine wpAny_newObj_type (newEnv_comp ?_)
  generalize hDD : sb.heap.objs.size = D
  have freeD : Hb D = none := Ib.hok.fresh (Nat.le_of_eq hDD)
  obtain ⟨W, ⟨mm, w0⟩, turn⟩ := q D freeD
  generalize hsc : ({ sb with heap := sb.heap.push { cls := .type "dict", data := .dict #[] } } : Shared) = sc
  have Ic : Inv X pins σ (upd Hb D (.dT [])) sc := by
    subst hsc
    refine Ib.laid (t' := sb.toks) (fun b o e => Heap.get?_push_of_some _ e) (Nat.le_of_eq hDD) ?_
    subst hDD
    exact dt_empty sb.heap Ib.big
  have ec : sc.heap = sb.heap.push { cls := .type "dict", data := .dict #[] } := by subst hsc; rfl
  have small : ∀ b ∈ fp, b < sb.heap.objs.size := fun b mb => by
    obtain ⟨o, eo, _⟩ := T.obj _ _ stb b mb
    exact Heap.lt_size eo
  have fc : ∀ b ∈ fp, FpOk X pins (upd Hb D (.dT [])) b ∧ b < sc.heap.objs.size := fun b mb =>
    ⟨⟨(upd_ne (by rw [← hDD]; exact Nat.ne_of_lt (small b mb))).trans (fb b mb).1, (fb b mb).2⟩, by rw [ec, Heap.size_push]; exact Nat.lt_succ_of_lt (small b mb)⟩
  have stc : tn 0 sc.heap := T.keep _ _ _ stb fun b _ o eo => by rw [ec]; exact Heap.get?_push_of_some _ eo
  have Id := block_start Ic ok hN fc
  generalize hcl : cellsFrom (sc.heap.objs.size + 1) scope.names (cloFrom X.env.cells scope.names []) = cl at Id ⊢
  have pg := hg sc (upd Hb D (.dT [])) sc.heap.objs.size cl fp
  have pt := ht sc (upd Hb D (.dT [])) sc.heap.objs.size cl fp
  have pk := hk sc (upd Hb D (.dT [])) sc.heap.objs.size cl fp
  have pv := he sc (upd Hb D (.dT [])) sc.heap.objs.size cl fp
  subst hcl
  show codeAny _ _ (.compStart (.DictComp kx vx [⟨tg, iter, ifs, 0⟩] scope pos) 0 (.ref it) (.ref D) (compEnvC scope (cellsFrom (sc.heap.objs.size + 1) scope.names (cloFrom X.env.cells scope.names [])) sc.heap.objs.size X.env)) (compPost (model X.prog X.w) X.A X.xe none _ (.ref D) sc.heap.objs.size) { sc with heap := pushCells (sc.heap.push { cls := .type "dict", data := .dict #[] }) scope.names }
  have nofp : ∀ b ∈ fp, (upd Hb D (.dT [])) b = none := fun b mb => (fc b mb).1.1
  generalize hce : compEnvC scope (cellsFrom (sc.heap.objs.size + 1) scope.names (cloFrom X.env.cells scope.names [])) sc.heap.objs.size X.env = ce at Id pg pt pk pv ⊢
  have locs : ce.locals = sc.heap.objs.size := by subst hce; rfl
  generalize hHc : upd Hb D (.dT []) = Hc at Ic Id pg pt pk pv w0 nofp fc
  generalize hsd : ({ sc with heap := pushCells (sc.heap.push { cls := .type "dict", data := .dict #[] }) scope.names } : Shared) = sd at Id ⊢
  have std : tn 0 sd.heap := T.keep _ _ _ stc fun b _ o eo => by rw [← hsd]; exact pushCells_keeps _ _ _ _ (Heap.get?_push_of_some _ eo)
  have ownb : ∀ {σ' : L2.St} {H' : Hp} {s' : Shared}, Inv (X.blk sc Hc scope ce fp) [] σ' H' s' → (∀ b ∈ fp, H' b = none) → ∀ b ∈ fp, FpOk (X.blk sc Hc scope ce fp) [] H' b := fun {σ' H' s'} J' n b mb =>
    ⟨n b mb, (J'.ok.exf b mb).1, J'.ok.exfs b mb, .inl mb, fun x c e => (J'.ok.exf b mb).2 x c e, fun p mp => absurd (show p ∈ ([] : List (Addr × Obj)) ++ [] from mp) (by simp)⟩
  refine codeAny_compStart_dict ?lp (T.self X.A 0 _ _ _ std ?lp)
  case lp =>
    refine compLoop_anyD (fun n s' => ∃ i H', Inv (X.blk sc Hc scope ce fp) [] (wipe σ (own.map (·.2))) H' s' ∧ tn i s'.heap ∧ (∀ b ∈ fp, H' b = none) ∧ W i n H') ?_ mm ⟨0, Hc, Id, std, nofp, w0⟩
    rintro n s5 ⟨i, H5, I5, st5, n5, w5⟩
    rcases turn i n H5 w5 with ⟨stop, qq⟩ | ⟨go, Nx, hNx, step⟩
    · refine thnF (T.done (X.blk sc Hc scope ce fp) rfl rfl rfl hc i [] s5 _ H5 (fun _ _ => False) I5 (ownb I5 n5) st5 stop) fun r s6 ⟨er, I6⟩ => ?_
      subst er
      have I7 : Inv X pins σ H5 s6 := Ic.call' (ch := fp) I6.os I6.base I6.hok I6.bare fun b mb => ⟨(fc b mb).1.2.2.2.1, (fc b mb).1.2.1, (fc b mb).1.2.2.2.2.1, (fc b mb).1.2.2.2.2.2⟩
      have noC : H5 sc.heap.objs.size = none := locs ▸ (show H5 ce.locals = none from I6.free)
      obtain ⟨m, ns, _⟩ := I6.loc
      change s6.heap.Ns ce.locals m at ns
      rw [locs] at ns
      obtain ⟨f0, f1, f2, f3, f4, f5⟩ := Ic.fpOk (Nat.le_refl _) noC
      exact ⟨m, ns, fun h2 hsb => ⟨.ref D, H5, I7.turned (t' := s6.toks) (fun b o hb e => (hsb.2 b hb).trans e) f0 f1 f3 f4 f5, rfl, qq⟩⟩
    · refine thnF (T.item (X.blk sc Hc scope ce fp) rfl rfl rfl hc i [] s5 _ H5 (fun _ _ => False) I5 (ownb I5 n5) st5 go) fun r s6 ⟨u, er, h6⟩ => ?_
      subst er
      refine thnF h6 fun _ s7 ⟨x, H7, I7, r7, y7, st7, n7⟩ => ?_
      refine thnF (pg.run _ s7 _ H7 x u _ (I7.pinned (ownb I7 n7) (T.obj _ _ st7)) r7 (step x H7 y7)) fun _ s8 ⟨σ8, H8, I8, ew, q8⟩ => ?_
      refine thnF (pt.run _ s8 σ8 H8 _ I8 q8) fun t s9 ⟨H9, I9, q9⟩ => ?_
      have back : ∀ {s' : Shared} {H' : Hp}, Inv (X.blk sc Hc scope ce fp) ([] ++ pinsAt fp s7.heap) σ8 H' s' → Nx H' → ∃ m, m < n ∧ ∃ i H', Inv (X.blk sc Hc scope ce fp) [] (wipe σ (own.map (·.2))) H' s' ∧ tn i s'.heap ∧ (∀ b ∈ fp, H' b = none) ∧ W i m H' := fun {s' H'} J nx => by
        obtain ⟨m2, lt2, w2⟩ := hNx H' nx
        have stands : ∀ b ∈ fp, ∀ o, s7.heap.get? b = some o → s'.heap.get? b = some o ∧ H' b = none := fun b mb o eo => ⟨(J.pin (b, o) (List.mem_append_right _ (List.mem_append_right _ (mem_pinsAt mb eo)))).1, (J.pin (b, o) (List.mem_append_right _ (List.mem_append_right _ (mem_pinsAt mb eo)))).2.1⟩
        refine ⟨m2, lt2, i + 1, H', (J.unpinned (pins := [])).weak (by rw [← ew, wipe_length]) (fun j v e => (wipe_some (by rw [ew]; exact e)).1), T.keep _ _ _ st7 fun b mb o eo => (stands b mb o eo).1, fun b mb => ?_, w2⟩
        obtain ⟨o, eo, _⟩ := T.obj _ _ st7 b mb
        exact (stands b mb o eo).2
      cases t with
      | false => exact back I9 (by simpa using q9)
      | true =>
        rw [if_pos rfl] at q9 ⊢
        refine thnF (pk.run _ s9 σ8 H9 _ I9 q9) fun zk s10 ⟨yk, H10, I10, r10, q10⟩ => ?_
        refine thnF (pv.run _ s10 σ8 H10 _ I10 q10) fun zv s11 ⟨yv, H11, I11, r11, kvs, k, c, ey, ec11, eD11, hl11, nx⟩ => ?_
        subst ey
        cases (show zk = Value.ref c from r10)
        exact dT_set (X := X.blk sc Hc scope ce fp) hu I11 eD11 ec11 hl11 r11 fun s12 I12 => back I12 nx
end
end Fl

set_option Elab.async false
set_option linter.all false
set_option maxRecDepth 100000
set_option maxHeartbeats 4000000
/-! pictures: dicts of pairs, comprehensions of texts and of numbers, texts joined -/
namespace Fl
open PySem PySem.Spec PyProof.Rows L2
/-- the texts of a list, one behind the other -/
def catS (ys : List Str) : Str := ys.foldl (fun a y => a ++ y) Str.empty
theorem catS_snoc (ys : List Str) (y : Str) : catS (ys ++ [y]) = catS ys ++ y := by unfold catS; rw [List.foldl_append]; rfl
theorem str_ext {a b : Str} (h : a.cps = b.cps) : a = b := by cases a; cases b; cases h; rfl
theorem fold_cps : ∀ (ys : List Str) (a : Str) (s : Array Nat), s = a.cps → ys.foldl (fun acc p => acc ++ (Str.empty).cps ++ p.cps) s = (ys.foldl (fun a y => a ++ y) a).cps
  | [], a, s, h => h
  | y :: ys, a, s, h => by
    rw [List.foldl_cons, List.foldl_cons]
    refine fold_cps ys (a ++ y) _ ?_
    subst h
    show a.cps ++ #[] ++ y.cps = a.cps ++ y.cps
    simp
theorem join_cat (ys : List Str) : Txt.join Str.empty ys = catS ys := by
  show Builtin.Str.glued Str.empty ys = catS ys
  rw [StrLaws.glued_eq_join]
  cases ys with
  | nil => rfl
  | cons x ys =>
    rw [← StrLaws.glued_cons]
    refine str_ext ?_
    show ys.foldl (fun acc p => acc ++ (Str.empty).cps ++ p.cps) x.cps = _
    rw [fold_cps ys x _ rfl]
    unfold catS
    rw [List.foldl_cons]
    have e : Str.empty ++ x = x := str_ext (by show #[] ++ x.cps = x.cps; simp)
    rw [e]
theorem inl_inj : ∀ {x y : List Int}, x.map (Sum.inl : Int → L2.Key) = y.map Sum.inl → x = y
  | [], [], _ => rfl
  | [], _ :: _, e => by cases e
  | _ :: _, [], e => by cases e
  | a :: x, b :: y, e => by
    rw [List.map_cons, List.map_cons] at e
    injection e with e1 e2
    injection e1 with e1
    rw [e1, inl_inj e2]
theorem g_join {to te : TE} {σ : L2.St} {H : Hp} {Q : VK} {r : V → List V → Hp → VK → Prop} (h : to σ H fun x H1 => (∃ a, x = .str a) ∧ te σ H1 fun y H2 => r x [y] H2 Q) : tM1 r to te σ H Q := h
section
variable {H1 : Hp} {K : PySem.W.Frag} {te : TE} {vs : List Nat} {σ : L2.St} {Q : VK} {a : Addr} {L : List (Addr × List Int)} {j : Nat}
/-- [text for i in range], nothing changed -/
theorem lcRS {lo : Int} {n : Nat} (ch : Nat → Str) (hz : n ≤ 5000)
    (step : ∀ (D : Addr) (i : Nat) (H : Hp), H1 D = none → i < n → Same H1 H → ∀ (R : V → Hp → Prop), (∀ H4, Same H H4 → R (.str (ch i)) H4) →
      wipe ((wipe σ vs).set j (some (.int (lo + i)))) vs = wipe σ vs ∧ te ((wipe σ vs).set j (some (.int (lo + i)))) H R)
    (q : ∀ (D : Addr) (H : Hp), Same H1 H → H D = some (.lst (((List.range n).map ch).map V.str)) → Q (.ref D) H) : lcK (Itr lo n) (gName j) tYes te vs σ H1 Q := by
  unfold lcK
  intro D hD
  refine lc_range (fun i H => H D = some (.lst (((List.range i).map ch).map V.str)) ∧ Fr [D] H1 H) ⟨by simpa using upd_same, Fr.same (Fl.Same.new hD)⟩ ?_ ?_
  · intro i H hi ⟨hacc, hf⟩
    have hsz : (5000 : Nat) < sizeLine := by decide
    refine step D i H hD hi (sm_of hD hf) _ fun H4 s => ⟨_, s _ _ hacc, by rw [List.length_map, List.length_map, List.length_range]; omega, ?_, (hf.trans (Fr.same s)).trans (Fr.upd (by simp))⟩
    rw [upd_same, List.range_succ, List.map_append, List.map_append]
    rfl
  · intro H ⟨hacc, hf⟩
    exact q D H (sm_of hD hf) hacc
/-- [number for i, k in pairs] -/
theorem lcPI (f : Pr → Int) {g : TG} (ha : PL H1 a L) (hz : L.length < 1000)
    (step : ∀ (D : Addr) (H : Hp) (b : Addr) (u v : Int), H1 D = none → Same H1 H → H b = some (.tup [.int u, .int v]) → ∀ (R : V → Hp → Prop), R (.int (f (u, v))) H →
      g (.ref b) (wipe σ vs) H fun σ2 H2 => wipe σ2 vs = wipe σ vs ∧ te σ2 H2 R)
    (q : ∀ (D : Addr) (H : Hp), Same H1 H → H D = some (.lst ((L.map fun p => f (kP p.2)).map V.int)) → Q (.ref D) H) : lcK (Itl K a) g tYes te vs σ H1 Q := by
  unfold lcK
  intro D hD
  have hDa : a ≠ D := fun e => by have := ha.ls; rw [e, hD] at this; cases this
  refine lc_list (xs := L.map fun p => V.ref p.1) (fun i H => H D = some (.lst (((L.take i).map fun p => f (kP p.2)).map V.int)) ∧ Fr [D] H1 H) ⟨by simpa using upd_same, Fr.same (Fl.Same.new hD)⟩ ?_ ?_ ?_
  · intro i H _ ⟨_, hf⟩
    exact SqL.of (hf a _ (by simpa using hDa) ha.ls)
  · intro i x H hx ⟨hacc, hf⟩
    rw [List.getElem?_map] at hx
    cases hp : L[i]? with
    | none => rw [hp] at hx; cases hx
    | some p =>
      rw [hp] at hx
      cases hx
      have hi := (List.getElem?_eq_some_iff.mp hp).1
      have et : (L.take (i + 1)) = L.take i ++ [p] := by rw [List.take_succ, hp]; rfl
      have ll : (L.take i).length ≤ i := List.length_take_le _ _
      have hsz : (1000 : Nat) ≤ sizeLine := by decide
      have hb := (ha.same (sm_of hD hf)).at_ p (List.mem_of_getElem? hp)
      rw [two_eq (ha.two p (List.mem_of_getElem? hp))] at hb
      refine step D H p.1 _ _ hD (sm_of hD hf) hb _ ⟨_, hacc, by rw [List.length_map, List.length_map]; omega, ?_, hf.trans (Fr.upd (by simp))⟩
      rw [upd_same, et, List.map_append, List.map_append]
      rfl
  · intro H ⟨hacc, hf⟩
    rw [List.length_map, List.take_of_length_le (Nat.le_refl _)] at hacc
    exact q D H (sm_of hD hf) hacc
/-- {pair: v for pair in pairs} -/
theorem dcP {tv : TE} {tk : TE} {Qd : Addr → Hp → Prop} (ha : PL H1 a L) (hz : L.length < 1000)
    (step : ∀ (D : Addr) (H : Hp) (b : Addr), H1 D = none → ∀ (R : V → V → Hp → Prop), (∀ z, R (.ref b) z H) → wipe ((wipe σ vs).set j (some (.ref b))) vs = wipe σ vs ∧ tk ((wipe σ vs).set j (some (.ref b))) H fun y H4 => tv ((wipe σ vs).set j (some (.ref b))) H4 fun z H5 => R y z H5)
    (q : ∀ (D : Addr) (H : Hp) (kvs : List (List L2.Key × V)), Same H1 H → H1 D = none → H D = some (.dT kvs) → (∀ k : List Int, (valV kvs (k.map Sum.inl)).isSome = decide (k ∈ L.map (·.2))) → Qd D H) :
    ∀ D, H1 D = none → ∃ W : Nat → Nat → Hp → Prop, (∃ m, W 0 m (upd H1 D (.dT []))) ∧ ∀ i m H, W i m H →
      ((Itl K a).stop i H ∧ Qd D H) ∨ ((Itl K a).go i H ∧ ∃ Nx : Hp → Prop, (∀ H', Nx H' → ∃ m', m' < m ∧ W (i + 1) m' H') ∧ ∀ x H', (Itl K a).yld i H x H' → gName j x (wipe σ vs) H' fun σ2 H2 => wipe σ2 vs = wipe σ vs ∧ tYes σ2 H2 fun b H3 =>
        if b = true then tk σ2 H3 fun y H4 => tv σ2 H4 fun z H5 => ∃ kvs k c, y = .ref c ∧ H5 c = some (.tup (k.map kV)) ∧ H5 D = some (.dT kvs) ∧ kvs.length < sizeLine ∧ Nx (upd H5 D (.dT (putK kvs k z))) else Nx H3) := by
  intro D hD
  have hDa : a ≠ D := fun e => by have := ha.ls; rw [e, hD] at this; cases this
  let Pv : Nat → Hp → Prop := fun i H => (∃ kvs, H D = some (.dT kvs) ∧ kvs.length ≤ i ∧ ∀ k : List Int, (valV kvs (k.map Sum.inl)).isSome = decide (k ∈ (L.take i).map (·.2))) ∧ Fr [D] H1 H
  refine ⟨fun i m H => m = L.length - i ∧ i ≤ L.length ∧ Pv i H, ⟨L.length, by simp, Nat.zero_le _, ⟨[], upd_same, Nat.le_refl _, fun k => by simp [valV]⟩, Fr.same (Fl.Same.new hD)⟩, ?_⟩
  rintro i m H ⟨rfl, hi, ⟨kvs, hkv, hkl, hkm⟩, hf⟩
  have hx := hf a _ (by simpa using hDa) ha.ls
  have hS : SqL K H a (L.map fun p => V.ref p.1) := SqL.of hx
  by_cases hlt : i < L.length
  · have hp : L[i]? = some L[i] := List.getElem?_eq_getElem hlt
    generalize L[i] = p at hp
    have hxi : (L.map fun p => V.ref p.1)[i]? = some (.ref p.1) := by rw [List.getElem?_map, hp]; rfl
    refine .inr ⟨⟨_, _, hS, hxi⟩, Pv (i + 1), fun H' p' => ⟨L.length - (i + 1), by omega, rfl, hlt, p'⟩, fun x H' y => ?_⟩
    obtain ⟨e, y⟩ := y
    subst e
    have e2 := (y _ hS).symm.trans hxi
    cases e2
    have hb := (ha.toTP.same (sm_of hD hf)).at_ p (List.mem_of_getElem? hp)
    have et : (L.take (i + 1)) = L.take i ++ [p] := by rw [List.take_succ, hp]; rfl
    have hsz : (1000 : Nat) ≤ sizeLine := by decide
    refine step D H' p.1 hD (fun y z H5 => ∃ kvs k c, y = .ref c ∧ H5 c = some (.tup (k.map kV)) ∧ H5 D = some (.dT kvs) ∧ kvs.length < sizeLine ∧ Pv (i + 1) (upd H5 D (.dT (putK kvs k z)))) (fun z => ⟨kvs, p.2.map Sum.inl, p.1, rfl, by rw [hb, List.map_map]; rfl, hkv, by omega, ⟨putK kvs (p.2.map Sum.inl) z, upd_same, Nat.le_trans (length_putK kvs _ z) (by omega), fun k => ?_⟩, hf.trans (Fr.upd (by simp))⟩)
    · rw [valV_put, et, List.map_append]
      by_cases e : k = p.2
      · subst e
        rw [if_pos rfl]
        simp
      · rw [if_neg fun h => e (inl_inj h), hkm k]
        simp [e]
  · obtain rfl : i = L.length := by omega
    rw [List.take_of_length_le (Nat.le_refl _)] at hkm
    refine .inl ⟨⟨_, hS, by simp⟩, q D H kvs (sm_of hD hf) hD hkv hkm⟩
end
end Fl

set_option Elab.async false
set_option linter.all false
set_option maxRecDepth 100000
set_option maxHeartbeats 4000000
set_option exponentiation.threshold 20000
/-! own errors with one field, a text -/
namespace Fl
open PySem PySem.Spec PyProof.Rows L2
/-- an own error class, made with a text that it keeps as f -/
structure Cls1 (K : PySem.W.Frag) (mg : Str → Option Value) (x qual : Str) (st : Stmt) (f : Str) : Prop where
  g : mg x = some (.ref (adr mg x))
  o : OexC K (adr mg x)
  n : PySem.W.findIn K (.ref (adr mg x)) f = some none
  i : ∃ (fI : Addr) (fd : FuncData), PySem.W.findIn K (.ref (adr mg x)) "__init__" = some (some (.ref fI)) ∧ PySem.W.typeIn K (.ref fI) = some (.type "function") ∧ Fun K "__init__" qual st fI fd
def spIni1 (C : Addr) (f : Str) : Sp := fun vs H Q _ => ∃ (a : Addr) (s : Str), vs = [.ref a, .str s] ∧ s.length ≤ 1000 ∧ H a = some (exo a C none) ∧ ∀ dx, H dx = none → dx ≠ a → Q .non (upd (upd H dx (exd dx [(f, .str s)])) a (exo a C (some dx)))
structure MkX1 (P : Program) (w : World) (K : PySem.W.Frag) (mg : Str → Option Value) (base : Heap) (k : Nat) (x f : Str) (ps : List Str) : Prop where
  g : mg x = some (.ref (adr mg x))
  o : OexC K (adr mg x)
  i : ∃ (fI : Addr) (fd : FuncData), PySem.W.findIn K (.ref (adr mg x)) "__init__" = some (some (.ref fI)) ∧ PySem.W.typeIn K (.ref fI) = some (.type "function") ∧ FnOk P w K mg base L2.CX0 k fI fd ps (spIni1 (adr mg x) f) ∧ L2.Binds K fd ps []
def tRaise1 (W : WX) (C : Addr) (f : Str) (ta : TA) : TS := fun _ σ H => tMkO C (spIni1 C f) [] ta σ H fun cls d H' => W cls d σ H'
theorem ps_raise1 {X : Cx} {W : WX} {k : Nat} {x f : Str} {ps : List Str} {e : Expr} {ta : TA} {p pos pos2 : Pos} (M : MkX1 X.prog X.w X.K X.mg X.base k x f ps) (hc : X.calm = true) (hr : Room (k + 1) X.A) (tk : Takes X W) (ha : PA X [e] ta) (hg : Gl X x := by rfl) (hdb : (x == ("__debug__" : Str)) = false := by decide)
    (he : starEach [e] X.env = (false, eval e X.env) :: starEach [] X.env := by rfl) (hpl : (backTo pos (starEach [] X.env)).any (·.1) = false := by rfl) :
    PS X (.Raise (some (.Call (.Name x p) [e] [] pos)) none pos2) (tRaise1 W (adr X.mg x) f ta) := by
  obtain ⟨fI, fd, iC, tI, F, b⟩ := M.i
  exact ⟨fun pins s σ H D I h => (ps_raise hc tk (pmk_oex (CX := L2.CX0) M.o iC tI F hr b .nil (fun _ _ _ _ _ _ _ z => z.elim) hg M.g ha hdb he hpl)).run pins s σ H D I h⟩
theorem g_raise1 {W : WX} {C : Addr} {f s : Str} {D : Ends} {σ : L2.St} {H : Hp} (hs : s.length ≤ 1000) (h : ∀ dx, H dx = none → W (.ref C) (some dx) σ (upd H dx (.xd [(f, .str s)]))) : tRaise1 W C f (tCons (tC (.str s)) tNil) D σ H := by
  refine ⟨by simp, fun a ha => ⟨a, s, rfl, hs, upd_same, fun dx hd hne => ⟨rfl, dx, [(f, .str s)], upd_same, by rw [upd_ne hne, upd_same], by rw [upd_ne hne] at hd; exact hd, ?_⟩⟩⟩
  rw [upd_ne hne] at hd
  have e : upd (del (upd (upd (upd H a (exo a C none)) dx (exd dx [(f, .str s)])) a (exo a C (some dx))) a) dx (.xd [(f, .str s)]) = upd H dx (.xd [(f, .str s)]) := by
    funext b
    by_cases h1 : b = dx
    · rw [h1, upd_same, upd_same]
    · rw [upd_ne h1, upd_ne h1]
      by_cases h2 : b = a
      · rw [h2, del_same, ha]
      · rw [del_ne h2, upd_ne h2, upd_ne h1, upd_ne h2]
  rw [e]
  exact h dx hd
section
variable {P : Program} {w : World} {K : PySem.W.Frag} {mg : Str → Option Value} {base : Heap}
theorem mkX1_of {x qual f : Str} {st : Stmt} {k : Nat} {N ps : List Str} (C : Cls1 K mg x qual st f) (hps : ps.length = 2) (S : FnScope N ps (defScope st))
    (hb : ∀ (kV doc pm : Value) (an : Option Addr) (cdv ct : Value) (us : List Value), us.length = ps.length → bindArgs (PySem.W.fnOf "__init__" qual (defArgs st) (defBody st) (defScope st) .none kV doc pm an cdv ct) ⟨us, []⟩ = pure (ps.zip us))
    (hbody : ∀ (fa : Addr) (cdv : Value) (A : Around) (outer : List Env) (s : Shared) (H : Hp) (a : Addr) (y : Str) (Q : VK) (E : XK), Room k (A.deeper (envOfC qual (defScope st) s.heap.objs.size fa cdv)) → y.length ≤ 1000 → H a = some (exo a (adr mg x) none) →
      (∀ dx, H dx = none → dx ≠ a → Q .non (upd (upd H dx (exd dx [(f, .str y)])) a (exo a (adr mg x) (some dx)))) →
      ∃ t, PSs (cxOf L2.CX0 P w K mg base N qual (defScope st) fa cdv A outer s H E).nox (defBody st) t ∧ t { nx := fun _ H' => Q .non H', rt := Q } (start N [.ref a, .str y]) H) : MkX1 P w K mg base (k + 1) x f ps := by
  obtain ⟨fI, fd, iC, tI, F⟩ := C.i
  refine ⟨C.g, C.o, fI, fd, iC, tI, F.ok S (fun vs H Q E ⟨a, y, e, _⟩ => by rw [e, hps]; rfl) fun cdv A outer s H vs Q E hr ⟨a, y, e, hy, h, q⟩ => ?_, F.binds hb⟩
  subst e
  exact hbody fI cdv A outer s H a y Q E hr hy h q
end
end Fl

set_option Elab.async false
set_option linter.all false
set_option maxRecDepth 100000
set_option maxHeartbeats 4000000
set_option exponentiation.threshold 20000
namespace K60
open PySem PySem.Spec PyProof.Rows L2 Fl
-- facts of a place in the heap
local macro_rules | `(tactic| walk_at "fl.ne") => `(tactic| first
  | assumption
  | exact Ne.symm (by assumption)
  | ((with_reducible apply DeckAt.ne'); (focus assumption); walk_at "fl.deck"))
local macro_rules | `(tactic| walk_at "fl.look") => `(tactic| first
  | assumption
  | ((with_reducible show RV _ _ _ _); (with_reducible apply RV.ex1); (focus assumption); (focus walk_at "fl.ne"); walk_at "fl.look")
  | ((with_reducible show RV _ _ _ _); (with_reducible apply RV.same); (focus assumption); walk_at "fl.look")
  | ((with_reducible show RV _ _ _ _); (with_reducible apply RV.same); (focus exact Fl.Same.new (by assumption)); walk_at "fl.look")
  | (with_reducible exact SqL.of upd_same)
  | (with_reducible exact SqT.of upd_same)
  | ((with_reducible apply SqL.of); assumption)
  | ((with_reducible apply SqT.of); assumption)
  | ((with_reducible apply Ex1.l); (focus with_reducible exact Ex1.upd); (focus walk_at "fl.ne"); walk_at "fl.look")
  | ((with_reducible apply Ex1.t); (focus with_reducible exact Ex1.upd); (focus walk_at "fl.ne"); walk_at "fl.look")
  | ((with_reducible apply Same.seq); (focus exact Fl.Same.new (by assumption)); walk_at "fl.look")
  | ((with_reducible apply Fl.Same.t); (focus exact Fl.Same.new (by assumption)); walk_at "fl.look")
  | ((with_reducible apply Ex1.l); (focus assumption); (focus walk_at "fl.ne"); walk_at "fl.look")
  | ((with_reducible apply Ex1.t); (focus assumption); (focus walk_at "fl.ne"); walk_at "fl.look")
  | ((with_reducible apply Same.seq); (focus assumption); walk_at "fl.look")
  | ((with_reducible apply Fl.Same.t); (focus assumption); walk_at "fl.look"))
-- arithmetic that an operation asks
local macro_rules | `(tactic| walk_at "fl.side") => `(tactic| first
  | decide
  | assumption
  | omega
  | (simp only [List.length_cons, List.length_nil]; omega)
  | exact Or.inr (by decide)
  | (refine ⟨?_, ?_, ?_⟩ <;> decide)
  | exact Or.inl (by decide)
  | exact mulW (by first | assumption | omega) (by first | assumption | omega)
  | exact divW (by first | assumption | omega) (by first | assumption | omega)
  | exact divS (by first | assumption | omega) (by first | assumption | omega)
  | exact div62 (by first | assumption | decide | omega) (by first | assumption | decide | omega))
local macro_rules | `(tactic| walk_at "fl.kit") => `(tactic| first | exact kit_int_int | exact kit_int_bool | exact kit_int_tuple | exact kit_int_str | exact kit_int_list | exact kit_int_dict | exact kit_bool_int | exact kit_bool_bool | exact kit_bool_tuple | exact kit_bool_str | exact kit_bool_list | exact kit_bool_dict | exact kit_tuple_int | exact kit_tuple_bool | exact kit_tuple_tuple | exact kit_tuple_str | exact kit_tuple_list | exact kit_tuple_dict | exact kit_str_int | exact kit_str_bool | exact kit_str_tuple | exact kit_str_str | exact kit_str_list | exact kit_str_dict | exact kit_list_int | exact kit_list_bool | exact kit_list_tuple | exact kit_list_str | exact kit_list_list | exact kit_list_dict | exact kit_NoneType_int | exact kit_NoneType_bool | exact kit_NoneType_tuple | exact kit_NoneType_str | exact kit_NoneType_list | exact kit_NoneType_dict | exact kit_dict_int | exact kit_dict_bool | exact kit_dict_tuple | exact kit_dict_str | exact kit_dict_list | exact kit_dict_dict)
local macro_rules | `(tactic| walk_at "fl.ty") => `(tactic| first
  | exact .base (.int _)
  | exact .base (.bl _)
  | exact .base .non
  | exact .base (.str _)
  | exact .base (.tup upd_same)
  | exact .base (.lst upd_same)
  | (apply TyX.base; apply TyOf.tup; assumption)
  | (apply TyX.base; apply TyOf.lst; assumption))
local macro_rules | `(tactic| walk_at "fl.deck") => `(tactic| first
  | assumption
  | (refine DeckAt.same ?_ (Fl.Same.new (by assumption)); walk_at "fl.deck")
  | (refine DeckAt.same ?_ (by assumption); walk_at "fl.deck"))
local macro_rules | `(tactic| walk_at "fl.ex1") => `(tactic| first
  | assumption
  | exact Ex1.refl
  | exact Ex1.upd
  | (refine Ex1.trans ?_ Ex1.upd; walk_at "fl.ex1")
  | (refine Ex1.trans ?_ (Ex1.of (Fl.Same.new (by assumption))); walk_at "fl.ex1")
  | (refine Ex1.trans ?_ (by assumption); walk_at "fl.ex1")
  | (refine Ex1.trans ?_ (Ex1.of (by assumption)); walk_at "fl.ex1"))
local macro_rules | `(tactic| walk_at "fl.pre") => `(tactic| first | assumption | trivial | exact ne_of_num (by assumption))
local macro_rules | `(tactic| walk_at "fl.szq") => `(tactic| first
  | assumption
  | ((with_reducible apply Szq.add); (focus walk_at "fl.szq"); (focus walk_at "fl.szq"))
  | ((with_reducible apply Szq.sub); (focus walk_at "fl.szq"); (focus walk_at "fl.szq"))
  | ((with_reducible apply Szq.mul); (focus walk_at "fl.szq"); (focus walk_at "fl.szq"))
  | ((with_reducible apply Szq.div); (focus walk_at "fl.szq"); (focus walk_at "fl.szq"); (focus walk_at "fl.pre"))
  | exact szq_div (k := 41) (by decide) (by omega) (by decide))
local macro_rules | `(tactic| walk_at "fl.md") => `(tactic| first | assumption | ((with_reducible apply Szq.md); (focus walk_at "fl.szq"); decide))
local macro_rules | `(tactic| walk_at "fl.rat") => `(tactic| first
  | rfl
  | exact Rat.add_comm _ _
  | exact Rat.mul_comm _ _
  | exact Rat.add_assoc _ _ _
  | exact Rat.mul_assoc _ _ _
  | exact Rat.mul_add _ _ _
  | exact Rat.add_sub_cancel
  | exact Rat.mul_div_cancel (ne_of_num (by assumption))
  | exact Rat.div_mul_cancel (ne_of_num (by assumption)))
-- one step of a reading
local macro_rules | `(tactic| walk_at "fl.s") => `(tactic| first
  | (with_reducible refine g_seq ?_)
  | (with_reducible refine g_op ?_)
  | ((with_reducible apply g_var); (focus rfl))
  | (with_reducible refine g_c ?_)
  | (with_reducible refine g_I0 ?_)
  | ((with_reducible apply g_I); (focus walk_at "fl.side"))
  | (with_reducible refine g_U ?_)
  | (with_reducible refine g_un ?_)
  | ((with_reducible apply g_ixL); (focus walk_at "fl.look"); (focus first | assumption | rfl))
  | ((with_reducible apply g_ixT); (focus walk_at "fl.look"); (focus first | assumption | rfl))
  | (with_reducible refine g_cb1 ?_)
  | (with_reducible refine g_cb2 ?_)
  | (with_reducible refine g_int ?_)
  | (with_reducible refine g_intB ?_)
  | (with_reducible refine g_abs ?_)
  | (with_reducible refine g_max ?_)
  | (with_reducible refine g_min ?_)
  | ((with_reducible apply g_lenL); (focus walk_at "fl.look"))
  | ((with_reducible apply g_lenT); (focus walk_at "fl.look"))
  | (with_reducible refine g_gcd ?_)
  | ((with_reducible apply g_isiT); (focus walk_at "fl.ty"); (focus walk_at "fl.kit"))
  | ((with_reducible apply g_listL); (focus walk_at "fl.look"); intro _ _)
  | ((with_reducible refine g_new ?_ ?_); (focus walk_at "fl.side"); intro _ _)
  | ((with_reducible refine g_tup2 ?_))
  | (with_reducible refine g_eqI ?_)
  | (with_reducible refine g_neI ?_)
  | (with_reducible refine g_eqB ?_)
  | (with_reducible refine g_test ?_)
  | (with_reducible refine g_B ?_)
  | (with_reducible refine g_bl ?_)
  | (with_reducible refine g_ex ?_)
  | (with_reducible refine g_not ?_)
  | (with_reducible refine g_and ?_)
  | (with_reducible refine g_or ?_)
  | (with_reducible refine g_andV ?_)
  | (with_reducible refine g_orV ?_)
  | (with_reducible refine g_notV ?_)
  | (with_reducible refine g_next ?_)
  | (with_reducible refine g_ret ?_)
  | (with_reducible refine g_if ?_)
  | (with_reducible refine g_setS ?_)
  | ((with_reducible apply g_setL); (focus first | assumption | exact upd_same); (focus rfl))
  | (with_reducible refine g_set ?_)
  | ((with_reducible apply g_aug); (focus rfl))
  | (with_reducible refine g_ipI ?_)
  | (with_reducible refine g_drop ?_)
  | (with_reducible refine g_call ?_)
  | ((with_reducible refine draw_app ?_ ?_ ?_ ?_); (focus walk_at "fl.deck"); (focus walk_at "fl.side"); (focus walk_at "fl.side"); intro _ _ _ _ _ _)
  | ((with_reducible refine big_app ?_ ?_); (focus walk_at "fl.deck"); intro _ _ _ _ _ _ _ _ _)
  | ((with_reducible apply deck_app); (focus walk_at "fl.look"); intro _ _ _ _ _)
  | ((with_reducible refine fra_app ?_ ?_ ?_ ?_); (focus walk_at "fl.side"); (focus walk_at "fl.side"); (focus walk_at "fl.side"); intro _ _ _ _ _)
  | ((with_reducible apply cmp_app); (focus walk_at "fl.look"); (focus walk_at "fl.look"); (focus assumption); (focus assumption))
  | ((with_reducible apply down2_app); (focus walk_at "fl.look"); (focus assumption); intro _ _ _ _ _ _)
  | ((with_reducible apply near2_app); (focus walk_at "fl.look"); (focus assumption); intro _ _ _ _ _)
  | (with_reducible refine isint_app ?_)
  | (with_reducible refine sameI_app ?_)
  | (with_reducible refine g_callD ?_)
  | ((with_reducible show spRatq _ _ _ _ _); (apply ratq_app); (focus walk_at "fl.side"); (focus walk_at "fl.side"); (focus walk_at "fl.side"); intro _ _ _ _ _)
  | ((with_reducible apply bin_app); (focus walk_at "fl.look"); (focus walk_at "fl.look"); (focus walk_at "fl.md"); (focus walk_at "fl.md"); (focus walk_at "fl.pre"); intro _ _ _ _ _)
  | ((with_reducible apply cq_app); (focus walk_at "fl.look"); (focus walk_at "fl.look"); (focus walk_at "fl.md"); (focus walk_at "fl.md"))
  | ((with_reducible apply nr_app); (focus walk_at "fl.look"); (focus walk_at "fl.md"))
  | ((with_reducible apply ne_app); (focus walk_at "fl.look"); (focus walk_at "fl.look"); (focus walk_at "fl.rat"))
  | (with_reducible refine g_cons ?_)
  | (with_reducible refine g_nil ?_)
  | (with_reducible refine g_tup2 ?_)
  | (with_reducible refine g_tupN ?_)
  | (with_reducible refine g_lstN ?_)
  | (with_reducible refine g_iteT ?_)
  | (with_reducible refine g_iteF ?_)
  | (with_reducible refine g_iteNT ?_)
  | (with_reducible refine g_iteNF ?_)
  | ((with_reducible show ∀ (p : Addr), (_ : Option HO) = none → _); intro _ _))
local macro_rules | `(tactic| walk_at "fl.go") => `(tactic| repeat walk_at "fl.s")
local macro_rules | `(tactic| walk_at "fl.run") => `(tactic| ((repeat walk_at "fl.s"); try (first
  | (refine g_ite (fun _ => ?_) (fun _ => ?_); all_goals walk_at "fl.run")
  | (refine g_iteN (fun _ => ?_) (fun _ => ?_); all_goals walk_at "fl.run"))))

local macro_rules | `(tactic| walk_at "fl.raw") => `(tactic| first
  | assumption
  | exact upd_same
  | ((with_reducible apply raw_new); (focus assumption); walk_at "fl.raw")
  | ((with_reducible apply raw_same); (focus assumption); walk_at "fl.raw")
  | ((with_reducible apply raw_on); (focus assumption); (focus walk_at "fl.nd"); walk_at "fl.raw")
  | ((with_reducible apply raw_frd); (focus assumption); (focus walk_at "fl.nd"); walk_at "fl.raw"))
local macro_rules | `(tactic| walk_at "fl.nd") => `(tactic| first
  | assumption
  | exact Dk.ned2 (by assumption) (by assumption))
local macro_rules | `(tactic| walk_at "fl.frd") => `(tactic| first
  | assumption
  | exact Fl.Fr.refl
  | ((with_reducible apply Fl.Fr.newT); (focus assumption); walk_at "fl.frd")
  | ((with_reducible apply Fl.Fr.ond); (focus assumption); walk_at "fl.frd")
  | ((with_reducible apply Fl.Fr.smT); (focus assumption); walk_at "fl.frd")
  | ((with_reducible apply Fl.Fr.frT); (focus assumption); walk_at "fl.frd"))
local macro_rules | `(tactic| walk_at "fl.lk") => `(tactic| first
  | ((with_reducible apply SqL.of); walk_at "fl.raw")
  | ((with_reducible apply SqT.of); walk_at "fl.raw"))
local macro_rules | `(tactic| walk_at "fl.dq") => `(tactic| first
  | assumption
  | exact Dq.int _
  | exact Dq.bl _
  | exact Dq.non
  | ((with_reducible apply Dq.newH); (focus assumption); walk_at "fl.dq")
  | ((with_reducible apply Dq.sm); (focus assumption); walk_at "fl.dq")
  | ((with_reducible apply Dq.ond); (focus assumption); (focus first | assumption | simp); walk_at "fl.dq")
  | ((with_reducible apply Dq.frd); (focus assumption); (focus first | assumption | simp); walk_at "fl.dq"))
local macro_rules | `(tactic| walk_at "fl.dqa") => `(tactic| first
  | assumption
  | exact DqA.nil
  | ((with_reducible apply DqA.cons); (focus walk_at "fl.dq"); walk_at "fl.dqa")
  | ((with_reducible apply DqA.newH); (focus assumption); walk_at "fl.dqa")
  | ((with_reducible apply DqA.sm); (focus assumption); walk_at "fl.dqa"))
local macro_rules | `(tactic| walk_at "fl.al") => `(tactic| first
  | assumption
  | exact Al.nil
  | ((with_reducible apply Al.newH); (focus assumption); walk_at "fl.al")
  | ((with_reducible apply Al.sm); (focus assumption); walk_at "fl.al")
  | ((with_reducible apply Al.ond); (focus assumption); (focus assumption); walk_at "fl.al")
  | ((with_reducible apply Al.frd); (focus assumption); (focus assumption); walk_at "fl.al"))
local macro_rules | `(tactic| walk_at "fl.sm") => `(tactic| first
  | assumption
  | exact L2.Same.refl _
  | ((with_reducible apply Fl.Same.newT); (focus assumption); walk_at "fl.sm")
  | ((with_reducible apply Fl.Same.sm); (focus assumption); walk_at "fl.sm"))
local macro_rules | `(tactic| walk_at "fl.dk") => `(tactic| first
  | assumption
  | ((with_reducible apply Dk.newH); (focus assumption); walk_at "fl.dk")
  | ((with_reducible apply Dk.sm); (focus assumption); walk_at "fl.dk"))
local macro_rules | `(tactic| walk_at "fl.cz") => `(tactic| ((try simp only [List.length_drop, List.length_take, List.length_append, List.length_cons, List.length_nil, List.length_map, List.length_reverse, List.length_dropLast]); omega))
-- readings with plain lookups first, then the older steps
local macro_rules | `(tactic| walk_at "fl.t") => `(tactic| first
  | ((with_reducible apply g_ixL); (focus walk_at "fl.lk"); (focus first | assumption | exact at0 | rfl))
  | ((with_reducible apply g_ixT); (focus walk_at "fl.lk"); (focus first | assumption | rfl))
  | ((with_reducible apply g_lenL); (focus walk_at "fl.lk"))
  | ((with_reducible apply g_lenT); (focus walk_at "fl.lk"))
  | ((with_reducible apply g_listL); (focus walk_at "fl.lk"); intro _ _)
  | (with_reducible refine g_sl ?_)
  | (with_reducible refine g_part ?_)
  | (with_reducible refine g_nop ?_)
  | (with_reducible refine g_ei ?_)
  | ((with_reducible apply g_slF1); (focus walk_at "fl.lk"); intro _ _)
  | ((with_reducible apply g_slT1); (focus walk_at "fl.lk"); intro _ _)
  | ((with_reducible apply g_slB); (focus walk_at "fl.lk"); intro _ _)
  | ((with_reducible apply g_slE); (focus walk_at "fl.lk"); intro _ _)
  | ((with_reducible apply g_slF); (focus walk_at "fl.lk"); intro _ _)
  | ((with_reducible apply g_slTo); (focus walk_at "fl.lk"); intro _ _)
  | ((with_reducible apply g_sl2); (focus walk_at "fl.lk"); intro _ _)
  | ((with_reducible apply g_cat); (focus walk_at "fl.raw"); (focus walk_at "fl.raw"); (focus walk_at "fl.cz"); intro _ _)
  | ((with_reducible apply dr_app); (focus walk_at "fl.dk"); (focus first | (with_reducible assumption) | omega | walk_at "fl.side"); (focus first | (with_reducible assumption) | omega | walk_at "fl.side"); intro _ _ _ _ _ _)
  | ((with_reducible apply dk_app); (focus assumption); intro _ _ _ _ _)
  | ((with_reducible refine g_sz ?_ ?_); (focus walk_at "fl.cz"))
  | (with_reducible refine g_name ?_)
  | ((with_reducible apply g_minL); (focus walk_at "fl.lk"); (focus assumption))
  | ((with_reducible apply g_maxL); (focus walk_at "fl.lk"); (focus assumption))
  | ((with_reducible apply g_sum); (focus walk_at "fl.lk"))
  | (with_reducible refine g_nn ?_)
  | (with_reducible refine g_tru ?_)
  | ((with_reducible apply g_tru0); (focus walk_at "fl.lk"))
  | ((with_reducible apply g_tru1); (focus walk_at "fl.lk"))
  | (with_reducible refine g_yes ?_)
  | ((with_reducible apply g_gtup); (focus walk_at "fl.lk"); (focus rfl))
  | (with_reducible refine g_gcons ?_)
  | (with_reducible refine g_gnil ?_)
  | (with_reducible refine g_bm ?_)
  | ((with_reducible apply g_tyL); (focus walk_at "fl.lk"))
  | ((with_reducible apply g_app); (focus walk_at "fl.raw"); (focus walk_at "fl.cz"))
  | ((with_reducible apply g_ext); (focus walk_at "fl.raw"); (focus walk_at "fl.raw"); (focus walk_at "fl.cz"))
  | (with_reducible refine g_lc ?_)
  | (with_reducible refine g_for ?_)
  | (with_reducible refine g_rng1 ?_)
  | (with_reducible refine g_rng2 ?_)
  | (with_reducible refine g_il ?_)
  | (with_reducible refine g_zip ?_)
  | ((with_reducible apply g_e1); (focus walk_at "fl.cz"); (focus walk_at "fl.cz"))
  | ((with_reducible apply g_e2); (focus (refine ⟨?_, ?_, ?_, ?_⟩ <;> walk_at "fl.cz")))
  | ((with_reducible apply g_el); (focus walk_at "fl.lk"))
  | ((with_reducible apply g_ez); (focus walk_at "fl.lk"); (focus walk_at "fl.lk"))
  | walk_at "fl.s")
local macro_rules | `(tactic| walk_at "fl.w") => `(tactic| repeat walk_at "fl.t")
local macro_rules | `(tactic| walk_at "fl.wr") => `(tactic| ((repeat walk_at "fl.t"); try (first
  | (refine g_ite (fun _ => ?_) (fun _ => ?_); all_goals walk_at "fl.wr")
  | (refine g_iteN (fun _ => ?_) (fun _ => ?_); all_goals walk_at "fl.wr"))))

local macro_rules | `(tactic| walk_at "fl.t") => `(tactic| first
  | ((with_reducible apply g_slR0); (focus walk_at "fl.lk"); intro _ _)
  | (with_reducible refine g_lrev ?_)
  | ((with_reducible apply g_lrev2); (focus walk_at "fl.lk"); intro _ _)
  | (with_reducible refine g_eqS ?_))
local macro_rules | `(tactic| walk_at "fl.w") => `(tactic| repeat walk_at "fl.t")

def topS (i : Nat) : Stmt := PySem.Challenge.pw_fleuron_k60_pictures_of_pixels.main.body.getD i (.Pass ⟨0, 0, 0, 0⟩)
abbrev s_moved_pixels : Stmt := topS 5
abbrev N_moved_pixels : List Str := ["pixels", "across", "along", "i", "k"]
abbrev ps_moved_pixels : List Str := ["pixels", "across", "along"]
theorem sc_moved_pixels : FnScope N_moved_pixels ps_moved_pixels (defScope s_moved_pixels) := ⟨rfl, rfl, rfl, by decide +kernel, rfl, by decide +kernel, by decide +kernel⟩
theorem bd_moved_pixels (kV doc pm : Value) (an : Option Addr) (cdv ct : Value) (us : List Value) (h : us.length = ps_moved_pixels.length) : bindArgs (PySem.W.fnOf "moved_pixels" "moved_pixels" (defArgs s_moved_pixels) (defBody s_moved_pixels) (defScope s_moved_pixels) .none kV doc pm an cdv ct) ⟨us, []⟩ = pure (ps_moved_pixels.zip us) := match us, h with | [_, _, _], _ => rfl
abbrev s_joined : Stmt := topS 6
abbrev N_joined : List Str := ["first", "second"]
abbrev ps_joined : List Str := ["first", "second"]
theorem sc_joined : FnScope N_joined ps_joined (defScope s_joined) := ⟨rfl, rfl, rfl, by decide +kernel, rfl, by decide +kernel, by decide +kernel⟩
theorem bd_joined (kV doc pm : Value) (an : Option Addr) (cdv ct : Value) (us : List Value) (h : us.length = ps_joined.length) : bindArgs (PySem.W.fnOf "joined" "joined" (defArgs s_joined) (defBody s_joined) (defScope s_joined) .none kV doc pm an cdv ct) ⟨us, []⟩ = pure (ps_joined.zip us) := match us, h with | [_, _], _ => rfl
abbrev s_picture : Stmt := topS 7
abbrev N_picture : List Str := ["pixels", "left", "right", "k", "lowest", "highest", "black", "rows", "pixel", "i", "_"]
abbrev ps_picture : List Str := ["pixels"]
theorem sc_picture : FnScope N_picture ps_picture (defScope s_picture) := ⟨rfl, rfl, rfl, by decide +kernel, rfl, by decide +kernel, by decide +kernel⟩
theorem bd_picture (kV doc pm : Value) (an : Option Addr) (cdv ct : Value) (us : List Value) (h : us.length = ps_picture.length) : bindArgs (PySem.W.fnOf "picture" "picture" (defArgs s_picture) (defBody s_picture) (defScope s_picture) .none kV doc pm an cdv ct) ⟨us, []⟩ = pure (ps_picture.zip us) := match us, h with | [_], _ => rfl
abbrev s_law_deck : Stmt := topS 9
abbrev N_law_deck : List Str := ["script"]
abbrev ps_law_deck : List Str := ["script"]
theorem sc_law_deck : FnScope N_law_deck ps_law_deck (defScope s_law_deck) := ⟨rfl, rfl, rfl, by decide +kernel, rfl, by decide +kernel, by decide +kernel⟩
theorem bd_law_deck (kV doc pm : Value) (an : Option Addr) (cdv ct : Value) (us : List Value) (h : us.length = ps_law_deck.length) : bindArgs (PySem.W.fnOf "_law_deck" "_law_deck" (defArgs s_law_deck) (defBody s_law_deck) (defScope s_law_deck) .none kV doc pm an cdv ct) ⟨us, []⟩ = pure (ps_law_deck.zip us) := match us, h with | [_], _ => rfl
abbrev s_law_draw : Stmt := topS 10
abbrev N_law_draw : List Str := ["deck", "most", "value", "cell"]
abbrev ps_law_draw : List Str := ["deck", "most"]
theorem sc_law_draw : FnScope N_law_draw ps_law_draw (defScope s_law_draw) := ⟨rfl, rfl, rfl, by decide +kernel, rfl, by decide +kernel, by decide +kernel⟩
theorem bd_law_draw (kV doc pm : Value) (an : Option Addr) (cdv ct : Value) (us : List Value) (h : us.length = ps_law_draw.length) : bindArgs (PySem.W.fnOf "_law_draw" "_law_draw" (defArgs s_law_draw) (defBody s_law_draw) (defScope s_law_draw) .none kV doc pm an cdv ct) ⟨us, []⟩ = pure (ps_law_draw.zip us) := match us, h with | [_, _], _ => rfl
abbrev s_law_same : Stmt := topS 11
abbrev N_law_same : List Str := ["actual", "due", "k"]
abbrev ps_law_same : List Str := ["actual", "due"]
theorem sc_law_same : FnScope N_law_same ps_law_same (defScope s_law_same) := ⟨rfl, rfl, rfl, by decide +kernel, rfl, by decide +kernel, by decide +kernel⟩
theorem bd_law_same (kV doc pm : Value) (an : Option Addr) (cdv ct : Value) (us : List Value) (h : us.length = ps_law_same.length) : bindArgs (PySem.W.fnOf "_law_same" "_law_same" (defArgs s_law_same) (defBody s_law_same) (defScope s_law_same) .none kV doc pm an cdv ct) ⟨us, []⟩ = pure (ps_law_same.zip us) := match us, h with | [_, _], _ => rfl
abbrev s_law_same_list : Stmt := topS 12
abbrev N_law_same_list : List Str := ["actual", "due", "k"]
abbrev ps_law_same_list : List Str := ["actual", "due"]
theorem sc_law_same_list : FnScope N_law_same_list ps_law_same_list (defScope s_law_same_list) := ⟨rfl, rfl, rfl, by decide +kernel, rfl, by decide +kernel, by decide +kernel⟩
theorem bd_law_same_list (kV doc pm : Value) (an : Option Addr) (cdv ct : Value) (us : List Value) (h : us.length = ps_law_same_list.length) : bindArgs (PySem.W.fnOf "_law_same_list" "_law_same_list" (defArgs s_law_same_list) (defBody s_law_same_list) (defScope s_law_same_list) .none kV doc pm an cdv ct) ⟨us, []⟩ = pure (ps_law_same_list.zip us) := match us, h with | [_, _], _ => rfl
abbrev s_law_pixels : Stmt := topS 13
abbrev N_law_pixels : List Str := ["deck", "found", "x", "y", "k", "pixel"]
abbrev ps_law_pixels : List Str := ["deck"]
theorem sc_law_pixels : FnScope N_law_pixels ps_law_pixels (defScope s_law_pixels) := ⟨rfl, rfl, rfl, by decide +kernel, rfl, by decide +kernel, by decide +kernel⟩
theorem bd_law_pixels (kV doc pm : Value) (an : Option Addr) (cdv ct : Value) (us : List Value) (h : us.length = ps_law_pixels.length) : bindArgs (PySem.W.fnOf "_law_pixels" "_law_pixels" (defArgs s_law_pixels) (defBody s_law_pixels) (defScope s_law_pixels) .none kV doc pm an cdv ct) ⟨us, []⟩ = pure (ps_law_pixels.zip us) := match us, h with | [_], _ => rfl
abbrev s_law_refused : Stmt := topS 14
abbrev N_law_refused : List Str := ["pixels", "e"]
abbrev ps_law_refused : List Str := ["pixels"]
theorem sc_law_refused : FnScope N_law_refused ps_law_refused (defScope s_law_refused) := ⟨rfl, rfl, rfl, by decide +kernel, rfl, by decide +kernel, by decide +kernel⟩
theorem bd_law_refused (kV doc pm : Value) (an : Option Addr) (cdv ct : Value) (us : List Value) (h : us.length = ps_law_refused.length) : bindArgs (PySem.W.fnOf "_law_refused" "_law_refused" (defArgs s_law_refused) (defBody s_law_refused) (defScope s_law_refused) .none kV doc pm an cdv ct) ⟨us, []⟩ = pure (ps_law_refused.zip us) := match us, h with | [_], _ => rfl
abbrev s_law : Stmt := topS 15
abbrev N_law : List Str := ["script", "deck", "first", "second", "kept", "m", "n", "both", "due", "across", "along", "row", "text", "column", "x", "p"]
abbrev ps_law : List Str := ["script"]
theorem sc_law : FnScope N_law ps_law (defScope s_law) := ⟨rfl, rfl, rfl, by decide +kernel, rfl, by decide +kernel, by decide +kernel⟩
theorem bd_law (kV doc pm : Value) (an : Option Addr) (cdv ct : Value) (us : List Value) (h : us.length = ps_law.length) : bindArgs (PySem.W.fnOf "law" "law" (defArgs s_law) (defBody s_law) (defScope s_law) .none kV doc pm an cdv ct) ⟨us, []⟩ = pure (ps_law.zip us) := match us, h with | [_], _ => rfl
abbrev s_TooLarge : Stmt := inClass (topS 2) 0
abbrev ps_TooLarge : List Str := ["self", "limit"]
theorem sc_TooLarge : FnScope ["self", "limit"] ps_TooLarge (defScope s_TooLarge) := ⟨rfl, rfl, rfl, by decide +kernel, rfl, by decide +kernel, by decide +kernel⟩
structure Txt (K : PySem.W.Frag) (mg : Str → Option Value) : Prop where
  z_bool : mg "bool" = none
  z_int : mg "int" = none
  z_isinstance : mg "isinstance" = none
  z_len : mg "len" = none
  z_list : mg "list" = none
  z_max : mg "max" = none
  z_min : mg "min" = none
  z_range : mg "range" = none
  z_reversed : mg "reversed" = none
  z_set : mg "set" = none
  z_sorted : mg "sorted" = none
  z_str : mg "str" = none
  z_tuple : mg "tuple" = none
  g_MOST_IN_PICTURE : ∃ u, mg "MOST_IN_PICTURE" = some u ∧ RelV (.int (1000)) u
  d_moved_pixels : DefIn K mg "moved_pixels" s_moved_pixels
  d_joined : DefIn K mg "joined" s_joined
  d_picture : DefIn K mg "picture" s_picture
  d_law_deck : DefIn K mg "_law_deck" s_law_deck
  d_law_draw : DefIn K mg "_law_draw" s_law_draw
  d_law_same : DefIn K mg "_law_same" s_law_same
  d_law_same_list : DefIn K mg "_law_same_list" s_law_same_list
  d_law_pixels : DefIn K mg "_law_pixels" s_law_pixels
  d_law_refused : DefIn K mg "_law_refused" s_law_refused
  d_law : DefIn K mg "law" s_law
  x_FleuronError : mg "FleuronError" = some (.ref (adr mg "FleuronError"))
  b_FleuronError : BaseC K (adr mg "FleuronError")
  mk_TooLarge : Cls1 K mg "TooLarge" "TooLarge.__init__" s_TooLarge "limit"
  ms_TooLarge : PySem.W.exmOne K (.ref (adr mg "TooLarge")) (.ref (adr mg "TooLarge")) = some true

section
variable {P : Program} {w : World} {K : PySem.W.Frag} {mg : Str → Option Value} {base : Heap}
theorem ok_law_deck (T : Txt K mg) : Has P w K mg base 1 "_law_deck" ps_law_deck (spDk K) := by
  refine has_of T.d_law_deck sc_law_deck bd_law_deck (fun vs H Q E h => ?_) (fun f cdv A outer s H vs Q E hr h => ?_)
  · obtain ⟨a, ns, rfl, _⟩ := h
    rfl
  · obtain ⟨a, ns, rfl, hS, q⟩ := h
    refine ⟨_, (pss_one (ps_ret (pe_lst (pa_cons (pe_callTy (clList (K := K) rfl) (by rfl) T.z_list (by decide +kernel) (pa_cons (pv 0) pa_nil)) (pa_cons pe_int (pa_cons pe_int (pa_cons pe_int pa_nil))))))), ?_⟩
    walk_at "fl.go"
    rename_i l hl d hd
    have hd' : H d = none := Same.free (Fl.Same.new hl) hd
    have hne : l ≠ d := fun e => by
      rw [← e, upd_same] at hd
      cases hd
    exact q d l _ ((Fl.Same.new hl).trans (Fl.Same.new hd)) ⟨hne, raw_new hd upd_same, 0, 0, 7, upd_same, Int.le_refl 0⟩
theorem ok_law_draw (T : Txt K mg) : Has P w K mg base 1 "_law_draw" ps_law_draw spDr := by
  refine has_of T.d_law_draw sc_law_draw bd_law_draw (fun vs H Q E h => ?_) (fun f cdv A outer s H vs Q E hr h => ?_)
  · obtain ⟨d, s, ns, m, rfl, _⟩ := h
    rfl
  · obtain ⟨d, sa, ns, m, rfl, ⟨hne, hs, pos, rest, seed, hd, hpos⟩, hm, hm2, q⟩ := h
    refine ⟨_, (pss_cons (ps_if (pt_cmpR op_ge (pe_ix (ixL (K := K) rfl) (pv 0) pe_int (fun _ _ => rfl)) (pv 1) (nomark _))
        (pss_cons (ps_set (i := 2) sc_law_draw.nd rfl (.inl rfl) (pe_op op_mod (pe_callTy call_int' (by rfl) T.z_int (by decide +kernel) (pa_cons (pe_ix (ixL (K := K) rfl) (pv 0) pe_int (fun _ _ => rfl)) pa_nil)) (pv 1)))
      (pss_cons (ps_asg (pe_op op_fdivW (pe_ix (ixL (K := K) rfl) (pv 0) pe_int (fun _ _ => rfl)) (pv 1)) (pg_sub (pv 0) pe_int set_list))
      (pss_one (ps_ret (pv 2)))))
        pss_nil)
      (pss_cons (ps_set (i := 3) sc_law_draw.nd rfl (.inl rfl) pe_int)
      (pss_cons (ps_if (pt_cmpR op_lt (pe_ix (ixL (K := K) rfl) (pv 0) pe_int (fun _ _ => rfl)) (pe_callB (clLen (K := K) rfl) (by rfl) T.z_len (by decide +kernel) (pa_cons (pe_ix (ixL (K := K) rfl) (pv 0) pe_int (fun _ _ => rfl)) pa_nil)) (nomark _))
        (pss_one (ps_set (i := 3) sc_law_draw.nd rfl (.inl rfl) (pe_ix (ixL (K := K) rfl) (pe_ix (ixL (K := K) rfl) (pv 0) pe_int (fun _ _ => rfl)) (pe_ix (ixL (K := K) rfl) (pv 0) pe_int (fun _ _ => rfl)) (fun _ _ => rfl))))
        pss_nil)
      (pss_cons (ps_asg (pe_op op_add (pe_ix (ixL (K := K) rfl) (pv 0) pe_int (fun _ _ => rfl)) pe_int) (pg_sub (pv 0) pe_int set_list))
      (pss_cons (ps_asg pe_int (pg_sub (pv 0) pe_int set_list))
      (pss_cons (ps_if (pt_cmpR op_ge (pv 3) (pe_powc (r := 1000000000000000000) (by decide) (by decide +kernel)) (nomark _))
        (pss_cons (ps_asg (pe_op op_fdivW (pv 3) (pv 1)) (pg_sub (pv 0) pe_int set_list))
      (pss_one (ps_ret (pe_op op_mod (pe_callTy call_int' (by rfl) T.z_int (by decide +kernel) (pa_cons (pv 3) pa_nil)) (pv 1)))))
        pss_nil)
      (pss_cons (ps_asg (pe_op op_mod (pe_callTy call_int' (by rfl) T.z_int (by decide +kernel) (pa_cons (pe_op op_add (pe_op op_add (pe_op op_mul (pe_ix (ixL (K := K) rfl) (pv 0) pe_int (fun _ _ => rfl)) pe_int) (pe_op op_mul (pv 3) pe_int)) (pe_op op_mul (pe_ix (ixL (K := K) rfl) (pv 0) pe_int (fun _ _ => rfl)) pe_int)) pa_nil)) pe_int) (pg_sub (pv 0) pe_int set_list))
      (pss_cons (ps_asg (pe_op op_mod (pe_callTy call_int' (by rfl) T.z_int (by decide +kernel) (pa_cons (pe_op op_add (pe_op op_mul (pe_ix (ixL (K := K) rfl) (pv 0) pe_int (fun _ _ => rfl)) pe_int) pe_int) pa_nil)) pe_int) (pg_sub (pv 0) pe_int set_list))
      (pss_one (ps_ret (pe_op op_mod (pe_callTy call_int' (by rfl) T.z_int (by decide +kernel) (pa_cons (pe_op op_fdivW (pe_ix (ixL (K := K) rfl) (pv 0) pe_int (fun _ _ => rfl)) pe_int) pa_nil)) (pv 1)))))))))))), ?_⟩
    have hlen : (ns.map V.int).length = ns.length := List.length_map _
    have fin : ∀ (x p r z : Int) (H' : Hp), H' d = some (.lst [.ref sa, .int p, .int r, .int z]) → 0 ≤ p → On d H H' → Q (.int (x % m)) H' := fun x p r z H' e hp ho =>
      q _ _ (Int.emod_nonneg _ (by omega)) (Int.emod_lt_of_pos _ hm) ⟨hne, raw_on ho hne hs, p, r, z, e, hp⟩ ho
    rcases (by omega : pos < ns.length ∨ ¬ pos < ns.length) with hp | hp
    · obtain ⟨n, hn⟩ := at_int hpos hp
      walk_at "fl.wr"
      all_goals first
        | (exfalso; omega)
        | exact fin _ _ _ _ _ upd_same (by omega) (by intro b hb; simp only [upd_ne hb])
    · walk_at "fl.wr"
      all_goals first
        | (exfalso; omega)
        | exact fin _ _ _ _ _ upd_same (by omega) (by intro b hb; simp only [upd_ne hb])
end
end K60

set_option Elab.async false
set_option linter.all false
set_option maxRecDepth 100000
set_option maxHeartbeats 4000000
set_option exponentiation.threshold 20000
namespace K60
open PySem PySem.Spec PyProof.Rows L2 Fl
-- facts of a place in the heap
local macro_rules | `(tactic| walk_at "fl.ne") => `(tactic| first
  | assumption
  | exact Ne.symm (by assumption)
  | ((with_reducible apply DeckAt.ne'); (focus assumption); walk_at "fl.deck"))
local macro_rules | `(tactic| walk_at "fl.look") => `(tactic| first
  | assumption
  | ((with_reducible show RV _ _ _ _); (with_reducible apply RV.ex1); (focus assumption); (focus walk_at "fl.ne"); walk_at "fl.look")
  | ((with_reducible show RV _ _ _ _); (with_reducible apply RV.same); (focus assumption); walk_at "fl.look")
  | ((with_reducible show RV _ _ _ _); (with_reducible apply RV.same); (focus exact Fl.Same.new (by assumption)); walk_at "fl.look")
  | (with_reducible exact SqL.of upd_same)
  | (with_reducible exact SqT.of upd_same)
  | ((with_reducible apply SqL.of); assumption)
  | ((with_reducible apply SqT.of); assumption)
  | ((with_reducible apply Ex1.l); (focus with_reducible exact Ex1.upd); (focus walk_at "fl.ne"); walk_at "fl.look")
  | ((with_reducible apply Ex1.t); (focus with_reducible exact Ex1.upd); (focus walk_at "fl.ne"); walk_at "fl.look")
  | ((with_reducible apply Same.seq); (focus exact Fl.Same.new (by assumption)); walk_at "fl.look")
  | ((with_reducible apply Fl.Same.t); (focus exact Fl.Same.new (by assumption)); walk_at "fl.look")
  | ((with_reducible apply Ex1.l); (focus assumption); (focus walk_at "fl.ne"); walk_at "fl.look")
  | ((with_reducible apply Ex1.t); (focus assumption); (focus walk_at "fl.ne"); walk_at "fl.look")
  | ((with_reducible apply Same.seq); (focus assumption); walk_at "fl.look")
  | ((with_reducible apply Fl.Same.t); (focus assumption); walk_at "fl.look"))
-- arithmetic that an operation asks
local macro_rules | `(tactic| walk_at "fl.side") => `(tactic| first
  | decide
  | assumption
  | omega
  | (simp only [List.length_cons, List.length_nil]; omega)
  | exact Or.inr (by decide)
  | (refine ⟨?_, ?_, ?_⟩ <;> decide)
  | exact Or.inl (by decide)
  | exact mulW (by first | assumption | omega) (by first | assumption | omega)
  | exact divW (by first | assumption | omega) (by first | assumption | omega)
  | exact divS (by first | assumption | omega) (by first | assumption | omega)
  | exact div62 (by first | assumption | decide | omega) (by first | assumption | decide | omega))
local macro_rules | `(tactic| walk_at "fl.kit") => `(tactic| first | exact kit_int_int | exact kit_int_bool | exact kit_int_tuple | exact kit_int_str | exact kit_int_list | exact kit_int_dict | exact kit_bool_int | exact kit_bool_bool | exact kit_bool_tuple | exact kit_bool_str | exact kit_bool_list | exact kit_bool_dict | exact kit_tuple_int | exact kit_tuple_bool | exact kit_tuple_tuple | exact kit_tuple_str | exact kit_tuple_list | exact kit_tuple_dict | exact kit_str_int | exact kit_str_bool | exact kit_str_tuple | exact kit_str_str | exact kit_str_list | exact kit_str_dict | exact kit_list_int | exact kit_list_bool | exact kit_list_tuple | exact kit_list_str | exact kit_list_list | exact kit_list_dict | exact kit_NoneType_int | exact kit_NoneType_bool | exact kit_NoneType_tuple | exact kit_NoneType_str | exact kit_NoneType_list | exact kit_NoneType_dict | exact kit_dict_int | exact kit_dict_bool | exact kit_dict_tuple | exact kit_dict_str | exact kit_dict_list | exact kit_dict_dict)
local macro_rules | `(tactic| walk_at "fl.ty") => `(tactic| first
  | exact .base (.int _)
  | exact .base (.bl _)
  | exact .base .non
  | exact .base (.str _)
  | exact .base (.tup upd_same)
  | exact .base (.lst upd_same)
  | (apply TyX.base; apply TyOf.tup; assumption)
  | (apply TyX.base; apply TyOf.lst; assumption))
local macro_rules | `(tactic| walk_at "fl.deck") => `(tactic| first
  | assumption
  | (refine DeckAt.same ?_ (Fl.Same.new (by assumption)); walk_at "fl.deck")
  | (refine DeckAt.same ?_ (by assumption); walk_at "fl.deck"))
local macro_rules | `(tactic| walk_at "fl.ex1") => `(tactic| first
  | assumption
  | exact Ex1.refl
  | exact Ex1.upd
  | (refine Ex1.trans ?_ Ex1.upd; walk_at "fl.ex1")
  | (refine Ex1.trans ?_ (Ex1.of (Fl.Same.new (by assumption))); walk_at "fl.ex1")
  | (refine Ex1.trans ?_ (by assumption); walk_at "fl.ex1")
  | (refine Ex1.trans ?_ (Ex1.of (by assumption)); walk_at "fl.ex1"))
local macro_rules | `(tactic| walk_at "fl.pre") => `(tactic| first | assumption | trivial | exact ne_of_num (by assumption))
local macro_rules | `(tactic| walk_at "fl.szq") => `(tactic| first
  | assumption
  | ((with_reducible apply Szq.add); (focus walk_at "fl.szq"); (focus walk_at "fl.szq"))
  | ((with_reducible apply Szq.sub); (focus walk_at "fl.szq"); (focus walk_at "fl.szq"))
  | ((with_reducible apply Szq.mul); (focus walk_at "fl.szq"); (focus walk_at "fl.szq"))
  | ((with_reducible apply Szq.div); (focus walk_at "fl.szq"); (focus walk_at "fl.szq"); (focus walk_at "fl.pre"))
  | exact szq_div (k := 41) (by decide) (by omega) (by decide))
local macro_rules | `(tactic| walk_at "fl.md") => `(tactic| first | assumption | ((with_reducible apply Szq.md); (focus walk_at "fl.szq"); decide))
local macro_rules | `(tactic| walk_at "fl.rat") => `(tactic| first
  | rfl
  | exact Rat.add_comm _ _
  | exact Rat.mul_comm _ _
  | exact Rat.add_assoc _ _ _
  | exact Rat.mul_assoc _ _ _
  | exact Rat.mul_add _ _ _
  | exact Rat.add_sub_cancel
  | exact Rat.mul_div_cancel (ne_of_num (by assumption))
  | exact Rat.div_mul_cancel (ne_of_num (by assumption)))
-- one step of a reading
local macro_rules | `(tactic| walk_at "fl.s") => `(tactic| first
  | (with_reducible refine g_seq ?_)
  | (with_reducible refine g_op ?_)
  | ((with_reducible apply g_var); (focus rfl))
  | (with_reducible refine g_c ?_)
  | (with_reducible refine g_I0 ?_)
  | ((with_reducible apply g_I); (focus walk_at "fl.side"))
  | (with_reducible refine g_U ?_)
  | (with_reducible refine g_un ?_)
  | ((with_reducible apply g_ixL); (focus walk_at "fl.look"); (focus first | assumption | rfl))
  | ((with_reducible apply g_ixT); (focus walk_at "fl.look"); (focus first | assumption | rfl))
  | (with_reducible refine g_cb1 ?_)
  | (with_reducible refine g_cb2 ?_)
  | (with_reducible refine g_int ?_)
  | (with_reducible refine g_intB ?_)
  | (with_reducible refine g_abs ?_)
  | (with_reducible refine g_max ?_)
  | (with_reducible refine g_min ?_)
  | ((with_reducible apply g_lenL); (focus walk_at "fl.look"))
  | ((with_reducible apply g_lenT); (focus walk_at "fl.look"))
  | (with_reducible refine g_gcd ?_)
  | ((with_reducible apply g_isiT); (focus walk_at "fl.ty"); (focus walk_at "fl.kit"))
  | ((with_reducible apply g_listL); (focus walk_at "fl.look"); intro _ _)
  | ((with_reducible refine g_new ?_ ?_); (focus walk_at "fl.side"); intro _ _)
  | ((with_reducible refine g_tup2 ?_))
  | (with_reducible refine g_eqI ?_)
  | (with_reducible refine g_neI ?_)
  | (with_reducible refine g_eqB ?_)
  | (with_reducible refine g_test ?_)
  | (with_reducible refine g_B ?_)
  | (with_reducible refine g_bl ?_)
  | (with_reducible refine g_ex ?_)
  | (with_reducible refine g_not ?_)
  | (with_reducible refine g_and ?_)
  | (with_reducible refine g_or ?_)
  | (with_reducible refine g_andV ?_)
  | (with_reducible refine g_orV ?_)
  | (with_reducible refine g_notV ?_)
  | (with_reducible refine g_next ?_)
  | (with_reducible refine g_ret ?_)
  | (with_reducible refine g_if ?_)
  | (with_reducible refine g_setS ?_)
  | ((with_reducible apply g_setL); (focus first | assumption | exact upd_same); (focus rfl))
  | (with_reducible refine g_set ?_)
  | ((with_reducible apply g_aug); (focus rfl))
  | (with_reducible refine g_ipI ?_)
  | (with_reducible refine g_drop ?_)
  | (with_reducible refine g_call ?_)
  | ((with_reducible refine draw_app ?_ ?_ ?_ ?_); (focus walk_at "fl.deck"); (focus walk_at "fl.side"); (focus walk_at "fl.side"); intro _ _ _ _ _ _)
  | ((with_reducible refine big_app ?_ ?_); (focus walk_at "fl.deck"); intro _ _ _ _ _ _ _ _ _)
  | ((with_reducible apply deck_app); (focus walk_at "fl.look"); intro _ _ _ _ _)
  | ((with_reducible refine fra_app ?_ ?_ ?_ ?_); (focus walk_at "fl.side"); (focus walk_at "fl.side"); (focus walk_at "fl.side"); intro _ _ _ _ _)
  | ((with_reducible apply cmp_app); (focus walk_at "fl.look"); (focus walk_at "fl.look"); (focus assumption); (focus assumption))
  | ((with_reducible apply down2_app); (focus walk_at "fl.look"); (focus assumption); intro _ _ _ _ _ _)
  | ((with_reducible apply near2_app); (focus walk_at "fl.look"); (focus assumption); intro _ _ _ _ _)
  | (with_reducible refine isint_app ?_)
  | (with_reducible refine sameI_app ?_)
  | (with_reducible refine g_callD ?_)
  | ((with_reducible show spRatq _ _ _ _ _); (apply ratq_app); (focus walk_at "fl.side"); (focus walk_at "fl.side"); (focus walk_at "fl.side"); intro _ _ _ _ _)
  | ((with_reducible apply bin_app); (focus walk_at "fl.look"); (focus walk_at "fl.look"); (focus walk_at "fl.md"); (focus walk_at "fl.md"); (focus walk_at "fl.pre"); intro _ _ _ _ _)
  | ((with_reducible apply cq_app); (focus walk_at "fl.look"); (focus walk_at "fl.look"); (focus walk_at "fl.md"); (focus walk_at "fl.md"))
  | ((with_reducible apply nr_app); (focus walk_at "fl.look"); (focus walk_at "fl.md"))
  | ((with_reducible apply ne_app); (focus walk_at "fl.look"); (focus walk_at "fl.look"); (focus walk_at "fl.rat"))
  | (with_reducible refine g_cons ?_)
  | (with_reducible refine g_nil ?_)
  | (with_reducible refine g_tup2 ?_)
  | (with_reducible refine g_tupN ?_)
  | (with_reducible refine g_lstN ?_)
  | (with_reducible refine g_iteT ?_)
  | (with_reducible refine g_iteF ?_)
  | (with_reducible refine g_iteNT ?_)
  | (with_reducible refine g_iteNF ?_)
  | ((with_reducible show ∀ (p : Addr), (_ : Option HO) = none → _); intro _ _))
local macro_rules | `(tactic| walk_at "fl.go") => `(tactic| repeat walk_at "fl.s")
local macro_rules | `(tactic| walk_at "fl.run") => `(tactic| ((repeat walk_at "fl.s"); try (first
  | (refine g_ite (fun _ => ?_) (fun _ => ?_); all_goals walk_at "fl.run")
  | (refine g_iteN (fun _ => ?_) (fun _ => ?_); all_goals walk_at "fl.run"))))

local macro_rules | `(tactic| walk_at "fl.raw") => `(tactic| first
  | assumption
  | exact upd_same
  | ((with_reducible apply raw_new); (focus assumption); walk_at "fl.raw")
  | ((with_reducible apply raw_same); (focus assumption); walk_at "fl.raw")
  | ((with_reducible apply raw_on); (focus assumption); (focus walk_at "fl.nd"); walk_at "fl.raw")
  | ((with_reducible apply raw_frd); (focus assumption); (focus walk_at "fl.nd"); walk_at "fl.raw"))
local macro_rules | `(tactic| walk_at "fl.nd") => `(tactic| first
  | assumption
  | exact Dk.ned2 (by assumption) (by assumption))
local macro_rules | `(tactic| walk_at "fl.frd") => `(tactic| first
  | assumption
  | exact Fl.Fr.refl
  | ((with_reducible apply Fl.Fr.newT); (focus assumption); walk_at "fl.frd")
  | ((with_reducible apply Fl.Fr.ond); (focus assumption); walk_at "fl.frd")
  | ((with_reducible apply Fl.Fr.smT); (focus assumption); walk_at "fl.frd")
  | ((with_reducible apply Fl.Fr.frT); (focus assumption); walk_at "fl.frd"))
local macro_rules | `(tactic| walk_at "fl.lk") => `(tactic| first
  | ((with_reducible apply SqL.of); walk_at "fl.raw")
  | ((with_reducible apply SqT.of); walk_at "fl.raw"))
local macro_rules | `(tactic| walk_at "fl.dq") => `(tactic| first
  | assumption
  | exact Dq.int _
  | exact Dq.bl _
  | exact Dq.non
  | ((with_reducible apply Dq.newH); (focus assumption); walk_at "fl.dq")
  | ((with_reducible apply Dq.sm); (focus assumption); walk_at "fl.dq")
  | ((with_reducible apply Dq.ond); (focus assumption); (focus first | assumption | simp); walk_at "fl.dq")
  | ((with_reducible apply Dq.frd); (focus assumption); (focus first | assumption | simp); walk_at "fl.dq"))
local macro_rules | `(tactic| walk_at "fl.dqa") => `(tactic| first
  | assumption
  | exact DqA.nil
  | ((with_reducible apply DqA.cons); (focus walk_at "fl.dq"); walk_at "fl.dqa")
  | ((with_reducible apply DqA.newH); (focus assumption); walk_at "fl.dqa")
  | ((with_reducible apply DqA.sm); (focus assumption); walk_at "fl.dqa"))
local macro_rules | `(tactic| walk_at "fl.al") => `(tactic| first
  | assumption
  | exact Al.nil
  | ((with_reducible apply Al.newH); (focus assumption); walk_at "fl.al")
  | ((with_reducible apply Al.sm); (focus assumption); walk_at "fl.al")
  | ((with_reducible apply Al.ond); (focus assumption); (focus assumption); walk_at "fl.al")
  | ((with_reducible apply Al.frd); (focus assumption); (focus assumption); walk_at "fl.al"))
local macro_rules | `(tactic| walk_at "fl.sm") => `(tactic| first
  | assumption
  | exact L2.Same.refl _
  | ((with_reducible apply Fl.Same.newT); (focus assumption); walk_at "fl.sm")
  | ((with_reducible apply Fl.Same.sm); (focus assumption); walk_at "fl.sm"))
local macro_rules | `(tactic| walk_at "fl.dk") => `(tactic| first
  | assumption
  | ((with_reducible apply Dk.newH); (focus assumption); walk_at "fl.dk")
  | ((with_reducible apply Dk.sm); (focus assumption); walk_at "fl.dk"))
local macro_rules | `(tactic| walk_at "fl.cz") => `(tactic| ((try simp only [List.length_drop, List.length_take, List.length_append, List.length_cons, List.length_nil, List.length_map, List.length_reverse, List.length_dropLast]); omega))
-- readings with plain lookups first, then the older steps
local macro_rules | `(tactic| walk_at "fl.t") => `(tactic| first
  | ((with_reducible apply g_ixL); (focus walk_at "fl.lk"); (focus first | assumption | exact at0 | rfl))
  | ((with_reducible apply g_ixT); (focus walk_at "fl.lk"); (focus first | assumption | rfl))
  | ((with_reducible apply g_lenL); (focus walk_at "fl.lk"))
  | ((with_reducible apply g_lenT); (focus walk_at "fl.lk"))
  | ((with_reducible apply g_listL); (focus walk_at "fl.lk"); intro _ _)
  | (with_reducible refine g_sl ?_)
  | (with_reducible refine g_part ?_)
  | (with_reducible refine g_nop ?_)
  | (with_reducible refine g_ei ?_)
  | ((with_reducible apply g_slF1); (focus walk_at "fl.lk"); intro _ _)
  | ((with_reducible apply g_slT1); (focus walk_at "fl.lk"); intro _ _)
  | ((with_reducible apply g_slB); (focus walk_at "fl.lk"); intro _ _)
  | ((with_reducible apply g_slE); (focus walk_at "fl.lk"); intro _ _)
  | ((with_reducible apply g_slF); (focus walk_at "fl.lk"); intro _ _)
  | ((with_reducible apply g_slTo); (focus walk_at "fl.lk"); intro _ _)
  | ((with_reducible apply g_sl2); (focus walk_at "fl.lk"); intro _ _)
  | ((with_reducible apply g_cat); (focus walk_at "fl.raw"); (focus walk_at "fl.raw"); (focus walk_at "fl.cz"); intro _ _)
  | ((with_reducible apply dr_app); (focus walk_at "fl.dk"); (focus first | (with_reducible assumption) | omega | walk_at "fl.side"); (focus first | (with_reducible assumption) | omega | walk_at "fl.side"); intro _ _ _ _ _ _)
  | ((with_reducible apply dk_app); (focus assumption); intro _ _ _ _ _)
  | ((with_reducible refine g_sz ?_ ?_); (focus walk_at "fl.cz"))
  | (with_reducible refine g_name ?_)
  | ((with_reducible apply g_minL); (focus walk_at "fl.lk"); (focus assumption))
  | ((with_reducible apply g_maxL); (focus walk_at "fl.lk"); (focus assumption))
  | ((with_reducible apply g_sum); (focus walk_at "fl.lk"))
  | (with_reducible refine g_nn ?_)
  | (with_reducible refine g_tru ?_)
  | ((with_reducible apply g_tru0); (focus walk_at "fl.lk"))
  | ((with_reducible apply g_tru1); (focus walk_at "fl.lk"))
  | (with_reducible refine g_yes ?_)
  | ((with_reducible apply g_gtup); (focus walk_at "fl.lk"); (focus rfl))
  | (with_reducible refine g_gcons ?_)
  | (with_reducible refine g_gnil ?_)
  | (with_reducible refine g_bm ?_)
  | ((with_reducible apply g_tyL); (focus walk_at "fl.lk"))
  | ((with_reducible apply g_app); (focus walk_at "fl.raw"); (focus walk_at "fl.cz"))
  | ((with_reducible apply g_ext); (focus walk_at "fl.raw"); (focus walk_at "fl.raw"); (focus walk_at "fl.cz"))
  | (with_reducible refine g_lc ?_)
  | (with_reducible refine g_for ?_)
  | (with_reducible refine g_rng1 ?_)
  | (with_reducible refine g_rng2 ?_)
  | (with_reducible refine g_il ?_)
  | (with_reducible refine g_zip ?_)
  | ((with_reducible apply g_e1); (focus walk_at "fl.cz"); (focus walk_at "fl.cz"))
  | ((with_reducible apply g_e2); (focus (refine ⟨?_, ?_, ?_, ?_⟩ <;> walk_at "fl.cz")))
  | ((with_reducible apply g_el); (focus walk_at "fl.lk"))
  | ((with_reducible apply g_ez); (focus walk_at "fl.lk"); (focus walk_at "fl.lk"))
  | walk_at "fl.s")
local macro_rules | `(tactic| walk_at "fl.w") => `(tactic| repeat walk_at "fl.t")
local macro_rules | `(tactic| walk_at "fl.wr") => `(tactic| ((repeat walk_at "fl.t"); try (first
  | (refine g_ite (fun _ => ?_) (fun _ => ?_); all_goals walk_at "fl.wr")
  | (refine g_iteN (fun _ => ?_) (fun _ => ?_); all_goals walk_at "fl.wr"))))

local macro_rules | `(tactic| walk_at "fl.t") => `(tactic| first
  | ((with_reducible apply g_slR0); (focus walk_at "fl.lk"); intro _ _)
  | (with_reducible refine g_lrev ?_)
  | ((with_reducible apply g_lrev2); (focus walk_at "fl.lk"); intro _ _)
  | (with_reducible refine g_eqS ?_))
local macro_rules | `(tactic| walk_at "fl.w") => `(tactic| repeat walk_at "fl.t")

section
variable {P : Program} {w : World} {K : PySem.W.Frag} {mg : Str → Option Value} {base : Heap}
theorem g_ifE {c : TT} {ta tb : TE} {σ : L2.St} {H : Hp} {Q : VK} (h : c σ H fun b H1 => if b = true then ta σ H1 Q else tb σ H1 Q) : tIf c ta tb σ H Q := h
/-- a list of pairs, taken apart as data -/
theorem _root_.Fl.PL.dq {S : List Addr} {H : Hp} {a : Addr} {L : List (Addr × List Int)} (h : PL H a L) (na : a ∉ S) (nt : ∀ d, d ∈ S → ∀ xs, H d ≠ some (.tup xs)) : Dq S H (.ref a) (lnD (L.map fun p => kP p.2)) := by
  refine .lst na h.ls ?_
  have t := h.toTP
  clear h na
  induction L with
  | nil => exact .nil
  | cons p L ih =>
    refine .cons ?_ (ih (t.sub fun q m => List.mem_cons_of_mem _ m))
    have e := t.at_ p List.mem_cons_self
    rw [two_eq (t.two p List.mem_cons_self)] at e
    exact .tup (fun m => nt _ m _ e) e (.cons (.int _) (.cons (.int _) .nil))
theorem _root_.Fl.PL.dq0 {H : Hp} {a : Addr} {L : List (Addr × List Int)} (h : PL H a L) : Dq [] H (.ref a) (lnD (L.map fun p => kP p.2)) := h.dq (by simp) (fun d m => by cases m)
def mvP (m n : Int) (p : Pr) : Pr := (p.1 + m, p.2 + n)
def spMvP : Sp := fun vs H Q _ => ∃ (a : Addr) (L : List (Addr × List Int)) (m n : Int), vs = [.ref a, .int m, .int n] ∧ PL H a L ∧ L.length < 64 ∧ ∀ v H', Same H H' → Dq [] H' v (lnD ((L.map fun p => kP p.2).map (mvP m n))) → Q v H'
theorem ok_moved_pixels (T : Txt K mg) : Has P w K mg base 1 "moved_pixels" ps_moved_pixels spMvP := by
  refine has_of T.d_moved_pixels sc_moved_pixels bd_moved_pixels (fun vs H Q E h => ?_) (fun f cdv A outer s H vs Q E hr h => ?_)
  · obtain ⟨a, L, m, n, rfl, _⟩ := h
    rfl
  · obtain ⟨a, L, m, n, rfl, hL, hz, q⟩ := h
    have hls := hL.ls
    have hD0 : Dq [] H (.ref a) (.list ((L.map fun p => kP p.2).map Fl.prD)) := hL.dq0
    refine ⟨_, (pss_one (ps_ret (pe_lc (own := [("i", 3), ("k", 4)]) rfl sc_moved_pixels.nd (piL (K := K) rfl (pv 0)) (blkOk_by (by kernel_rfl)) (fun _ _ _ _ _ => (pgT (n := 2) (K := K) rfl (by rfl) (pgs_cons (pg_name (i := 3) sc_moved_pixels.nd rfl (.inl rfl)) (pgs_cons (pg_name (i := 4) sc_moved_pixels.nd rfl (.inl rfl)) pgs_nil)))) (fun _ _ _ _ _ => pts_nil) (fun _ _ _ _ _ => (pe_tup (pa_cons (pe_op op_add (pv 3) (pv 1)) (pa_cons (pe_op op_add (pv 4) (pv 2)) pa_nil))))))), ?_⟩
    walk_at "fl.w"
    refine lcL (S := []) (fun i => ((((L.map fun p => kP p.2).map (mvP m n))).map Fl.prD)[i]?) .nil hD0 (by simp; omega) ?_ ?_
    · intro D i x e H2 hD he sm al hxe R N hR hN
      rw [List.getElem?_map] at he
      cases hc : (L.map fun p => kP p.2)[i]? with
      | none => rw [hc] at he; cases he
      | some p =>
        rw [hc] at he
        cases he
        obtain ⟨t, ts, rfl, nt, ht, hT⟩ := hxe.tupE
        obtain ⟨_, _, rfl, h1, hT⟩ := hT.consE
        obtain ⟨_, _, rfl, h2, hT⟩ := hT.consE
        cases hT.nilE
        cases h1.intE
        cases h2.intE
        walk_at "fl.w"
        refine ⟨rfl, ?_⟩
        walk_at "fl.w"
        refine hR (Fl.prD (mvP m n p)) _ _ (by rw [List.getElem?_map, List.getElem?_map, hc]; rfl) (by walk_at "fl.sm") (Dq.newT al (by assumption) (.cons (.int _) (.cons (.int _) .nil)))
    · intro D H2 sm hD hq
      rw [fm_all (by simp)] at hq
      exact q _ _ sm hq
def spJnP : Sp := fun vs H Q _ => ∃ (a b : Addr) (L M : List (Addr × List Int)), vs = [.ref a, .ref b] ∧ PL H a L ∧ PL H b M ∧ L.length + M.length < 64 ∧
  ∀ c R H', Same H H' → PL H' c R → (R.map (·.2)).Nodup → R.Pairwise (fun q r => Sx.leP q.2 r.2) → (∀ k, k ∈ R.map (·.2) ↔ k ∈ L.map (·.2) ∨ k ∈ M.map (·.2)) → R.length ≤ L.length + M.length → Q (.ref c) H'
theorem ok_joined (T : Txt K mg) : Has P w K mg base 1 "joined" ps_joined spJnP := by
  refine has_of T.d_joined sc_joined bd_joined (fun vs H Q E h => ?_) (fun f cdv A outer s H vs Q E hr h => ?_)
  · obtain ⟨a, b, L, L2, rfl, _⟩ := h
    rfl
  · obtain ⟨a, b, L, L2, rfl, hA, hB, hz, q⟩ := h
    refine ⟨_, (pss_one (ps_ret (pe_callB (clSortS (K := K) (P := P) (w := w) rfl rfl rfl rfl hr.units) (by rfl) T.z_sorted (by decide +kernel) (pa_cons (pe_op (opOrS (K := K) (P := P) (w := w) rfl rfl rfl hr.units) (pe_callTy (clSetP (K := K) (P := P) (w := w) rfl rfl rfl rfl hr.units) (by rfl) T.z_set (by decide +kernel) (pa_cons (pv 0) pa_nil)) (pe_callTy (clSetP (K := K) (P := P) (w := w) rfl rfl rfl rfl hr.units) (by rfl) T.z_set (by decide +kernel) (pa_cons (pv 1) pa_nil))) pa_nil)))), ?_⟩
    walk_at "fl.w"
    refine g_setP hA (by omega) (fun c M hc s1 k1 nd1 l1 => ?_)
    walk_at "fl.w"
    have sm1 : Same H (upd H c (SetTO P w c M)) := Fl.Same.new hc
    refine g_setP (hB.same sm1) (by omega) (fun d N hd s2 k2 nd2 l2 => ?_)
    walk_at "fl.w"
    have sm2 := Fl.Same.new (o := SetTO P w d N) hd
    have ncd : c ≠ d := fun e => by rw [← e, upd_same] at hd; cases hd
    have tM : TP (upd (upd H c (SetTO P w c M)) d (SetTO P w d N)) M := ((hA.toTP.sub s1).same sm1).same sm2
    have tN : TP (upd (upd H c (SetTO P w c M)) d (SetTO P w d N)) N := ((hB.toTP.sub s2).same sm1).same sm2
    refine g_setOp ncd (.inl (sm2 _ _ upd_same)) (.inl upd_same) tM tN (by omega) (fun e R he hx nd3 => ?_)
    walk_at "fl.w"
    have sm3 := Fl.Same.new (o := Sx.SetGO P w e R) he
    have tR : TP _ R := ((tM.app tN).sub fun p m => List.mem_append.mpr (hx.sub p m)).same sm3
    refine g_sortS (.inr upd_same) tR (fun S p pm pw hp hPL => ?_)
    have sm4 := ((sm1.trans sm2).trans sm3).trans (Fl.Same.new (o := .lst (S.map fun q => V.ref q.1)) hp)
    have lx := hx.len
    exact q p S _ sm4 hPL ((pm.map (·.2)).nodup_iff.mpr nd3) pw (fun k => by rw [(pm.map (·.2)).mem_iff, hx.all k, k1 k, k2 k]) (by rw [pm.length_eq]; omega)
end
end K60

set_option Elab.async false
set_option linter.all false
set_option maxRecDepth 100000
set_option maxHeartbeats 4000000
set_option exponentiation.threshold 20000
namespace K60
open PySem PySem.Spec PyProof.Rows L2 Fl
-- facts of a place in the heap
local macro_rules | `(tactic| walk_at "fl.ne") => `(tactic| first
  | assumption
  | exact Ne.symm (by assumption)
  | ((with_reducible apply DeckAt.ne'); (focus assumption); walk_at "fl.deck"))
local macro_rules | `(tactic| walk_at "fl.look") => `(tactic| first
  | assumption
  | ((with_reducible show RV _ _ _ _); (with_reducible apply RV.ex1); (focus assumption); (focus walk_at "fl.ne"); walk_at "fl.look")
  | ((with_reducible show RV _ _ _ _); (with_reducible apply RV.same); (focus assumption); walk_at "fl.look")
  | ((with_reducible show RV _ _ _ _); (with_reducible apply RV.same); (focus exact Fl.Same.new (by assumption)); walk_at "fl.look")
  | (with_reducible exact SqL.of upd_same)
  | (with_reducible exact SqT.of upd_same)
  | ((with_reducible apply SqL.of); assumption)
  | ((with_reducible apply SqT.of); assumption)
  | ((with_reducible apply Ex1.l); (focus with_reducible exact Ex1.upd); (focus walk_at "fl.ne"); walk_at "fl.look")
  | ((with_reducible apply Ex1.t); (focus with_reducible exact Ex1.upd); (focus walk_at "fl.ne"); walk_at "fl.look")
  | ((with_reducible apply Same.seq); (focus exact Fl.Same.new (by assumption)); walk_at "fl.look")
  | ((with_reducible apply Fl.Same.t); (focus exact Fl.Same.new (by assumption)); walk_at "fl.look")
  | ((with_reducible apply Ex1.l); (focus assumption); (focus walk_at "fl.ne"); walk_at "fl.look")
  | ((with_reducible apply Ex1.t); (focus assumption); (focus walk_at "fl.ne"); walk_at "fl.look")
  | ((with_reducible apply Same.seq); (focus assumption); walk_at "fl.look")
  | ((with_reducible apply Fl.Same.t); (focus assumption); walk_at "fl.look"))
-- arithmetic that an operation asks
local macro_rules | `(tactic| walk_at "fl.side") => `(tactic| first
  | decide
  | assumption
  | omega
  | (simp only [List.length_cons, List.length_nil]; omega)
  | exact Or.inr (by decide)
  | (refine ⟨?_, ?_, ?_⟩ <;> decide)
  | exact Or.inl (by decide)
  | exact mulW (by first | assumption | omega) (by first | assumption | omega)
  | exact divW (by first | assumption | omega) (by first | assumption | omega)
  | exact divS (by first | assumption | omega) (by first | assumption | omega)
  | exact div62 (by first | assumption | decide | omega) (by first | assumption | decide | omega))
local macro_rules | `(tactic| walk_at "fl.kit") => `(tactic| first | exact kit_int_int | exact kit_int_bool | exact kit_int_tuple | exact kit_int_str | exact kit_int_list | exact kit_int_dict | exact kit_bool_int | exact kit_bool_bool | exact kit_bool_tuple | exact kit_bool_str | exact kit_bool_list | exact kit_bool_dict | exact kit_tuple_int | exact kit_tuple_bool | exact kit_tuple_tuple | exact kit_tuple_str | exact kit_tuple_list | exact kit_tuple_dict | exact kit_str_int | exact kit_str_bool | exact kit_str_tuple | exact kit_str_str | exact kit_str_list | exact kit_str_dict | exact kit_list_int | exact kit_list_bool | exact kit_list_tuple | exact kit_list_str | exact kit_list_list | exact kit_list_dict | exact kit_NoneType_int | exact kit_NoneType_bool | exact kit_NoneType_tuple | exact kit_NoneType_str | exact kit_NoneType_list | exact kit_NoneType_dict | exact kit_dict_int | exact kit_dict_bool | exact kit_dict_tuple | exact kit_dict_str | exact kit_dict_list | exact kit_dict_dict)
local macro_rules | `(tactic| walk_at "fl.ty") => `(tactic| first
  | exact .base (.int _)
  | exact .base (.bl _)
  | exact .base .non
  | exact .base (.str _)
  | exact .base (.tup upd_same)
  | exact .base (.lst upd_same)
  | (apply TyX.base; apply TyOf.tup; assumption)
  | (apply TyX.base; apply TyOf.lst; assumption))
local macro_rules | `(tactic| walk_at "fl.deck") => `(tactic| first
  | assumption
  | (refine DeckAt.same ?_ (Fl.Same.new (by assumption)); walk_at "fl.deck")
  | (refine DeckAt.same ?_ (by assumption); walk_at "fl.deck"))
local macro_rules | `(tactic| walk_at "fl.ex1") => `(tactic| first
  | assumption
  | exact Ex1.refl
  | exact Ex1.upd
  | (refine Ex1.trans ?_ Ex1.upd; walk_at "fl.ex1")
  | (refine Ex1.trans ?_ (Ex1.of (Fl.Same.new (by assumption))); walk_at "fl.ex1")
  | (refine Ex1.trans ?_ (by assumption); walk_at "fl.ex1")
  | (refine Ex1.trans ?_ (Ex1.of (by assumption)); walk_at "fl.ex1"))
local macro_rules | `(tactic| walk_at "fl.pre") => `(tactic| first | assumption | trivial | exact ne_of_num (by assumption))
local macro_rules | `(tactic| walk_at "fl.szq") => `(tactic| first
  | assumption
  | ((with_reducible apply Szq.add); (focus walk_at "fl.szq"); (focus walk_at "fl.szq"))
  | ((with_reducible apply Szq.sub); (focus walk_at "fl.szq"); (focus walk_at "fl.szq"))
  | ((with_reducible apply Szq.mul); (focus walk_at "fl.szq"); (focus walk_at "fl.szq"))
  | ((with_reducible apply Szq.div); (focus walk_at "fl.szq"); (focus walk_at "fl.szq"); (focus walk_at "fl.pre"))
  | exact szq_div (k := 41) (by decide) (by omega) (by decide))
local macro_rules | `(tactic| walk_at "fl.md") => `(tactic| first | assumption | ((with_reducible apply Szq.md); (focus walk_at "fl.szq"); decide))
local macro_rules | `(tactic| walk_at "fl.rat") => `(tactic| first
  | rfl
  | exact Rat.add_comm _ _
  | exact Rat.mul_comm _ _
  | exact Rat.add_assoc _ _ _
  | exact Rat.mul_assoc _ _ _
  | exact Rat.mul_add _ _ _
  | exact Rat.add_sub_cancel
  | exact Rat.mul_div_cancel (ne_of_num (by assumption))
  | exact Rat.div_mul_cancel (ne_of_num (by assumption)))
-- one step of a reading
local macro_rules | `(tactic| walk_at "fl.s") => `(tactic| first
  | (with_reducible refine g_seq ?_)
  | (with_reducible refine g_op ?_)
  | ((with_reducible apply g_var); (focus rfl))
  | (with_reducible refine g_c ?_)
  | (with_reducible refine g_I0 ?_)
  | ((with_reducible apply g_I); (focus walk_at "fl.side"))
  | (with_reducible refine g_U ?_)
  | (with_reducible refine g_un ?_)
  | ((with_reducible apply g_ixL); (focus walk_at "fl.look"); (focus first | assumption | rfl))
  | ((with_reducible apply g_ixT); (focus walk_at "fl.look"); (focus first | assumption | rfl))
  | (with_reducible refine g_cb1 ?_)
  | (with_reducible refine g_cb2 ?_)
  | (with_reducible refine g_int ?_)
  | (with_reducible refine g_intB ?_)
  | (with_reducible refine g_abs ?_)
  | (with_reducible refine g_max ?_)
  | (with_reducible refine g_min ?_)
  | ((with_reducible apply g_lenL); (focus walk_at "fl.look"))
  | ((with_reducible apply g_lenT); (focus walk_at "fl.look"))
  | (with_reducible refine g_gcd ?_)
  | ((with_reducible apply g_isiT); (focus walk_at "fl.ty"); (focus walk_at "fl.kit"))
  | ((with_reducible apply g_listL); (focus walk_at "fl.look"); intro _ _)
  | ((with_reducible refine g_new ?_ ?_); (focus walk_at "fl.side"); intro _ _)
  | ((with_reducible refine g_tup2 ?_))
  | (with_reducible refine g_eqI ?_)
  | (with_reducible refine g_neI ?_)
  | (with_reducible refine g_eqB ?_)
  | (with_reducible refine g_test ?_)
  | (with_reducible refine g_B ?_)
  | (with_reducible refine g_bl ?_)
  | (with_reducible refine g_ex ?_)
  | (with_reducible refine g_not ?_)
  | (with_reducible refine g_and ?_)
  | (with_reducible refine g_or ?_)
  | (with_reducible refine g_andV ?_)
  | (with_reducible refine g_orV ?_)
  | (with_reducible refine g_notV ?_)
  | (with_reducible refine g_next ?_)
  | (with_reducible refine g_ret ?_)
  | (with_reducible refine g_if ?_)
  | (with_reducible refine g_setS ?_)
  | ((with_reducible apply g_setL); (focus first | assumption | exact upd_same); (focus rfl))
  | (with_reducible refine g_set ?_)
  | ((with_reducible apply g_aug); (focus rfl))
  | (with_reducible refine g_ipI ?_)
  | (with_reducible refine g_drop ?_)
  | (with_reducible refine g_call ?_)
  | ((with_reducible refine draw_app ?_ ?_ ?_ ?_); (focus walk_at "fl.deck"); (focus walk_at "fl.side"); (focus walk_at "fl.side"); intro _ _ _ _ _ _)
  | ((with_reducible refine big_app ?_ ?_); (focus walk_at "fl.deck"); intro _ _ _ _ _ _ _ _ _)
  | ((with_reducible apply deck_app); (focus walk_at "fl.look"); intro _ _ _ _ _)
  | ((with_reducible refine fra_app ?_ ?_ ?_ ?_); (focus walk_at "fl.side"); (focus walk_at "fl.side"); (focus walk_at "fl.side"); intro _ _ _ _ _)
  | ((with_reducible apply cmp_app); (focus walk_at "fl.look"); (focus walk_at "fl.look"); (focus assumption); (focus assumption))
  | ((with_reducible apply down2_app); (focus walk_at "fl.look"); (focus assumption); intro _ _ _ _ _ _)
  | ((with_reducible apply near2_app); (focus walk_at "fl.look"); (focus assumption); intro _ _ _ _ _)
  | (with_reducible refine isint_app ?_)
  | (with_reducible refine sameI_app ?_)
  | (with_reducible refine g_callD ?_)
  | ((with_reducible show spRatq _ _ _ _ _); (apply ratq_app); (focus walk_at "fl.side"); (focus walk_at "fl.side"); (focus walk_at "fl.side"); intro _ _ _ _ _)
  | ((with_reducible apply bin_app); (focus walk_at "fl.look"); (focus walk_at "fl.look"); (focus walk_at "fl.md"); (focus walk_at "fl.md"); (focus walk_at "fl.pre"); intro _ _ _ _ _)
  | ((with_reducible apply cq_app); (focus walk_at "fl.look"); (focus walk_at "fl.look"); (focus walk_at "fl.md"); (focus walk_at "fl.md"))
  | ((with_reducible apply nr_app); (focus walk_at "fl.look"); (focus walk_at "fl.md"))
  | ((with_reducible apply ne_app); (focus walk_at "fl.look"); (focus walk_at "fl.look"); (focus walk_at "fl.rat"))
  | (with_reducible refine g_cons ?_)
  | (with_reducible refine g_nil ?_)
  | (with_reducible refine g_tup2 ?_)
  | (with_reducible refine g_tupN ?_)
  | (with_reducible refine g_lstN ?_)
  | (with_reducible refine g_iteT ?_)
  | (with_reducible refine g_iteF ?_)
  | (with_reducible refine g_iteNT ?_)
  | (with_reducible refine g_iteNF ?_)
  | ((with_reducible show ∀ (p : Addr), (_ : Option HO) = none → _); intro _ _))
local macro_rules | `(tactic| walk_at "fl.go") => `(tactic| repeat walk_at "fl.s")
local macro_rules | `(tactic| walk_at "fl.run") => `(tactic| ((repeat walk_at "fl.s"); try (first
  | (refine g_ite (fun _ => ?_) (fun _ => ?_); all_goals walk_at "fl.run")
  | (refine g_iteN (fun _ => ?_) (fun _ => ?_); all_goals walk_at "fl.run"))))

local macro_rules | `(tactic| walk_at "fl.raw") => `(tactic| first
  | assumption
  | exact upd_same
  | ((with_reducible apply raw_new); (focus assumption); walk_at "fl.raw")
  | ((with_reducible apply raw_same); (focus assumption); walk_at "fl.raw")
  | ((with_reducible apply raw_on); (focus assumption); (focus walk_at "fl.nd"); walk_at "fl.raw")
  | ((with_reducible apply raw_frd); (focus assumption); (focus walk_at "fl.nd"); walk_at "fl.raw"))
local macro_rules | `(tactic| walk_at "fl.nd") => `(tactic| first
  | assumption
  | exact Dk.ned2 (by assumption) (by assumption))
local macro_rules | `(tactic| walk_at "fl.frd") => `(tactic| first
  | assumption
  | exact Fl.Fr.refl
  | ((with_reducible apply Fl.Fr.newT); (focus assumption); walk_at "fl.frd")
  | ((with_reducible apply Fl.Fr.ond); (focus assumption); walk_at "fl.frd")
  | ((with_reducible apply Fl.Fr.smT); (focus assumption); walk_at "fl.frd")
  | ((with_reducible apply Fl.Fr.frT); (focus assumption); walk_at "fl.frd"))
local macro_rules | `(tactic| walk_at "fl.lk") => `(tactic| first
  | ((with_reducible apply SqL.of); walk_at "fl.raw")
  | ((with_reducible apply SqT.of); walk_at "fl.raw"))
local macro_rules | `(tactic| walk_at "fl.dq") => `(tactic| first
  | assumption
  | exact Dq.int _
  | exact Dq.bl _
  | exact Dq.non
  | ((with_reducible apply Dq.newH); (focus assumption); walk_at "fl.dq")
  | ((with_reducible apply Dq.sm); (focus assumption); walk_at "fl.dq")
  | ((with_reducible apply Dq.ond); (focus assumption); (focus first | assumption | simp); walk_at "fl.dq")
  | ((with_reducible apply Dq.frd); (focus assumption); (focus first | assumption | simp); walk_at "fl.dq"))
local macro_rules | `(tactic| walk_at "fl.dqa") => `(tactic| first
  | assumption
  | exact DqA.nil
  | ((with_reducible apply DqA.cons); (focus walk_at "fl.dq"); walk_at "fl.dqa")
  | ((with_reducible apply DqA.newH); (focus assumption); walk_at "fl.dqa")
  | ((with_reducible apply DqA.sm); (focus assumption); walk_at "fl.dqa"))
local macro_rules | `(tactic| walk_at "fl.al") => `(tactic| first
  | assumption
  | exact Al.nil
  | ((with_reducible apply Al.newH); (focus assumption); walk_at "fl.al")
  | ((with_reducible apply Al.sm); (focus assumption); walk_at "fl.al")
  | ((with_reducible apply Al.ond); (focus assumption); (focus assumption); walk_at "fl.al")
  | ((with_reducible apply Al.frd); (focus assumption); (focus assumption); walk_at "fl.al"))
local macro_rules | `(tactic| walk_at "fl.sm") => `(tactic| first
  | assumption
  | exact L2.Same.refl _
  | ((with_reducible apply Fl.Same.newT); (focus assumption); walk_at "fl.sm")
  | ((with_reducible apply Fl.Same.sm); (focus assumption); walk_at "fl.sm"))
local macro_rules | `(tactic| walk_at "fl.dk") => `(tactic| first
  | assumption
  | ((with_reducible apply Dk.newH); (focus assumption); walk_at "fl.dk")
  | ((with_reducible apply Dk.sm); (focus assumption); walk_at "fl.dk"))
local macro_rules | `(tactic| walk_at "fl.cz") => `(tactic| ((try simp only [List.length_drop, List.length_take, List.length_append, List.length_cons, List.length_nil, List.length_map, List.length_reverse, List.length_dropLast]); omega))
-- readings with plain lookups first, then the older steps
local macro_rules | `(tactic| walk_at "fl.t") => `(tactic| first
  | ((with_reducible apply g_ixL); (focus walk_at "fl.lk"); (focus first | assumption | exact at0 | rfl))
  | ((with_reducible apply g_ixT); (focus walk_at "fl.lk"); (focus first | assumption | rfl))
  | ((with_reducible apply g_lenL); (focus walk_at "fl.lk"))
  | ((with_reducible apply g_lenT); (focus walk_at "fl.lk"))
  | ((with_reducible apply g_listL); (focus walk_at "fl.lk"); intro _ _)
  | (with_reducible refine g_sl ?_)
  | (with_reducible refine g_part ?_)
  | (with_reducible refine g_nop ?_)
  | (with_reducible refine g_ei ?_)
  | ((with_reducible apply g_slF1); (focus walk_at "fl.lk"); intro _ _)
  | ((with_reducible apply g_slT1); (focus walk_at "fl.lk"); intro _ _)
  | ((with_reducible apply g_slB); (focus walk_at "fl.lk"); intro _ _)
  | ((with_reducible apply g_slE); (focus walk_at "fl.lk"); intro _ _)
  | ((with_reducible apply g_slF); (focus walk_at "fl.lk"); intro _ _)
  | ((with_reducible apply g_slTo); (focus walk_at "fl.lk"); intro _ _)
  | ((with_reducible apply g_sl2); (focus walk_at "fl.lk"); intro _ _)
  | ((with_reducible apply g_cat); (focus walk_at "fl.raw"); (focus walk_at "fl.raw"); (focus walk_at "fl.cz"); intro _ _)
  | ((with_reducible apply dr_app); (focus walk_at "fl.dk"); (focus first | (with_reducible assumption) | omega | walk_at "fl.side"); (focus first | (with_reducible assumption) | omega | walk_at "fl.side"); intro _ _ _ _ _ _)
  | ((with_reducible apply dk_app); (focus assumption); intro _ _ _ _ _)
  | ((with_reducible refine g_sz ?_ ?_); (focus walk_at "fl.cz"))
  | (with_reducible refine g_name ?_)
  | ((with_reducible apply g_minL); (focus walk_at "fl.lk"); (focus assumption))
  | ((with_reducible apply g_maxL); (focus walk_at "fl.lk"); (focus assumption))
  | ((with_reducible apply g_sum); (focus walk_at "fl.lk"))
  | (with_reducible refine g_nn ?_)
  | (with_reducible refine g_tru ?_)
  | ((with_reducible apply g_tru0); (focus walk_at "fl.lk"))
  | ((with_reducible apply g_tru1); (focus walk_at "fl.lk"))
  | (with_reducible refine g_yes ?_)
  | ((with_reducible apply g_gtup); (focus walk_at "fl.lk"); (focus rfl))
  | (with_reducible refine g_gcons ?_)
  | (with_reducible refine g_gnil ?_)
  | (with_reducible refine g_bm ?_)
  | ((with_reducible apply g_tyL); (focus walk_at "fl.lk"))
  | ((with_reducible apply g_app); (focus walk_at "fl.raw"); (focus walk_at "fl.cz"))
  | ((with_reducible apply g_ext); (focus walk_at "fl.raw"); (focus walk_at "fl.raw"); (focus walk_at "fl.cz"))
  | (with_reducible refine g_lc ?_)
  | (with_reducible refine g_for ?_)
  | (with_reducible refine g_rng1 ?_)
  | (with_reducible refine g_rng2 ?_)
  | (with_reducible refine g_il ?_)
  | (with_reducible refine g_zip ?_)
  | ((with_reducible apply g_e1); (focus walk_at "fl.cz"); (focus walk_at "fl.cz"))
  | ((with_reducible apply g_e2); (focus (refine ⟨?_, ?_, ?_, ?_⟩ <;> walk_at "fl.cz")))
  | ((with_reducible apply g_el); (focus walk_at "fl.lk"))
  | ((with_reducible apply g_ez); (focus walk_at "fl.lk"); (focus walk_at "fl.lk"))
  | walk_at "fl.s")
local macro_rules | `(tactic| walk_at "fl.w") => `(tactic| repeat walk_at "fl.t")
local macro_rules | `(tactic| walk_at "fl.wr") => `(tactic| ((repeat walk_at "fl.t"); try (first
  | (refine g_ite (fun _ => ?_) (fun _ => ?_); all_goals walk_at "fl.wr")
  | (refine g_iteN (fun _ => ?_) (fun _ => ?_); all_goals walk_at "fl.wr"))))

local macro_rules | `(tactic| walk_at "fl.t") => `(tactic| first
  | ((with_reducible apply g_slR0); (focus walk_at "fl.lk"); intro _ _)
  | (with_reducible refine g_lrev ?_)
  | ((with_reducible apply g_lrev2); (focus walk_at "fl.lk"); intro _ _)
  | (with_reducible refine g_eqS ?_))
local macro_rules | `(tactic| walk_at "fl.w") => `(tactic| repeat walk_at "fl.t")

section
variable {P : Program} {w : World} {K : PySem.W.Frag} {mg : Str → Option Value} {base : Heap}
theorem g_din {ty td : TE} {σ : L2.St} {H : Hp} {Q : VK} (h : ty σ H fun y H1 => td σ H1 fun x H2 => ∃ a o, x = V.ref a ∧ DGet H2 a y o ∧ Q (.bl o.isSome) H2) : tDIn ty td σ H Q := h
theorem g_rng3 {ta tb tc : TE} {σ : L2.St} {H : Hp} {R : It → Hp → Prop} (h : ta σ H fun x H1 => tb σ H1 fun y H2 => tc σ H2 fun z H3 => ∃ (i j c : Int) (n : Nat), [x, y, z] = [V.int i, V.int j, V.int c] ∧ RgC i j c n ∧ R (Itc i c n) H3) : iRng3 (tCons ta (tCons tb (tCons tc tNil))) σ H R := h
theorem g_dcT {wi : TI} {g : TG} {tt : TT} {tk tv : TE} {vs : List Nat} {σ : L2.St} {H : Hp} {Q : VK} (h : wi σ H fun J H1 => ∀ D, H1 D = none → ∃ W : Nat → Nat → Hp → Prop, (∃ m, W 0 m (upd H1 D (.dT []))) ∧ ∀ i m H, W i m H →
  (J.stop i H ∧ Q (.ref D) H) ∨ (J.go i H ∧ ∃ Nx : Hp → Prop, (∀ H', Nx H' → ∃ m', m' < m ∧ W (i + 1) m' H') ∧ ∀ x H', J.yld i H x H' → g x (wipe σ vs) H' fun σ2 H2 => wipe σ2 vs = wipe σ vs ∧ tt σ2 H2 fun b H3 =>
    if b = true then tk σ2 H3 fun y H4 => tv σ2 H4 fun z H5 => ∃ kvs k c, y = .ref c ∧ H5 c = some (.tup (k.map kV)) ∧ H5 D = some (.dT kvs) ∧ kvs.length < sizeLine ∧ Nx (upd H5 D (.dT (putK kvs k z))) else Nx H3)) : tDcT wi g tt tk tv vs σ H Q := h
theorem forK_c {lo c : Int} {n : Nat} {g : TG} {tb : TS} {D : Ends} {σ : L2.St} {H : Hp} (Pv : Nat → L2.St → Hp → Prop) (h0 : Pv 0 σ H) (hs : ∀ i σ H, i < n → Pv i σ H → g (.int (lo + (i : Nat) * c)) σ H fun σ2 H2 => tb { D with nx := Pv (i + 1), ct := Pv (i + 1), bk := D.nx } σ2 H2) (hd : ∀ σ H, Pv n σ H → D.nx σ H) : forK (Itc lo c n) g tb D σ H := for_rangeC Pv h0 hs hd
local macro_rules | `(tactic| walk_at "fl.t") => `(tactic| first
  | (with_reducible refine g_ifE ?_)
  | (with_reducible refine g_din ?_)
  | (with_reducible refine g_rng3 ?_)
  | (with_reducible refine g_dcT ?_)
  | (with_reducible refine g_join ?_))
local macro_rules | `(tactic| walk_at "fl.w") => `(tactic| repeat walk_at "fl.t")
/-- the sign of a pixel -/
def sgn (b : Bool) : Str := if b then "#" else "."
theorem sum_sgn (f : Nat → Bool) : ∀ l : List Nat, ((l.map fun j => sgn (f j)).map (fun y => y.length)).sum = l.length
  | [] => rfl
  | j :: l => by
    have e : (sgn (f j)).length = 1 := by unfold sgn; cases f j <;> rfl
    rw [List.map_cons, List.map_cons, List.sum_cons, e, sum_sgn f l, List.length_cons]
    omega
theorem empty_eq : (Str.ofString "" : Str) = Str.empty := by decide
/-- a row's text -/
def rowT (m : Int → Int → Bool) (l : Int) (n : Nat) (k : Int) : Str := catS ((List.range n).map fun i : Nat => sgn (m (l + (i : Int)) k))
/-- the rows' texts, from the highest down -/
def pic (m : Int → Int → Bool) (l : Int) (n : Nat) (t : Int) (c : Nat) : List Str := (List.range c).map fun j : Nat => rowT m l n (t - (j : Int))
def memK (L : List (Addr × List Int)) (i k : Int) : Bool := decide ([i, k] ∈ L.map (·.2))
/-- the corners of a list of pairs -/
structure Ext (L : List (Addr × List Int)) (l r b t : Int) : Prop where
  hl : IsMin l (L.map fun p => (kP p.2).1)
  hr : IsMax r (L.map fun p => (kP p.2).1)
  hb : IsMin b (L.map fun p => (kP p.2).2)
  ht : IsMax t (L.map fun p => (kP p.2).2)
  near : -100000 ≤ l ∧ r ≤ 100000 ∧ -100000 ≤ b ∧ t ≤ 100000
def picOf (L : List (Addr × List Int)) (l r b t : Int) : List Str := pic (memK L) l (r + 1 - l).toNat t (t - (b - 1)).toNat
def spPic : Sp := fun vs H Q _ => ∃ (a : Addr) (L : List (Addr × List Int)), vs = [.ref a] ∧ PL H a L ∧ L.length < 64 ∧
  ((L = [] ∧ ∀ c H', Same H H' → H' c = some (.lst []) → Q (.ref c) H') ∨ ∃ l r b t, Ext L l r b t ∧ r - l < 1000 ∧ t - b < 1000 ∧ ∀ c H', Same H H' → H' c = some (.lst ((picOf L l r b t).map V.str)) → Q (.ref c) H')
theorem ok_picture (T : Txt K mg) : Has P w K mg base 1 "picture" ps_picture spPic := by
  refine has_of T.d_picture sc_picture bd_picture (fun vs H Q E h => ?_) (fun f cdv A outer s H vs Q E hr h => ?_)
  · obtain ⟨a, L, rfl, _⟩ := h
    rfl
  · obtain ⟨a, L, rfl, hL, hz, q⟩ := h
    have hls := hL.ls
    refine ⟨_, (pss_cons (ps_if (pt_not (ptTru (K := K) rfl (pv 0) (by intro _; rfl)))
        (pss_one (ps_ret (pe_lst pa_nil)))
        pss_nil)
      (pss_cons (ps_set (i := 1) sc_picture.nd rfl (.inl rfl) (pe_callB (clMin (K := K) rfl rfl) (by rfl) T.z_min (by decide +kernel) (pa_cons (pe_lc (own := [("i", 9), ("_", 10)]) rfl sc_picture.nd (piL (K := K) rfl (pv 0)) (blkOk_by (by kernel_rfl)) (fun _ _ _ _ _ => (pgT (n := 2) (K := K) rfl (by rfl) (pgs_cons (pg_name (i := 9) sc_picture.nd rfl (.inl rfl)) (pgs_cons (pg_name (i := 10) sc_picture.nd rfl (.inl rfl)) pgs_nil)))) (fun _ _ _ _ _ => pts_nil) (fun _ _ _ _ _ => (pv 9))) pa_nil)))
      (pss_cons (ps_set (i := 2) sc_picture.nd rfl (.inl rfl) (pe_callB (clMax (K := K) rfl rfl) (by rfl) T.z_max (by decide +kernel) (pa_cons (pe_lc (own := [("i", 9), ("_", 10)]) rfl sc_picture.nd (piL (K := K) rfl (pv 0)) (blkOk_by (by kernel_rfl)) (fun _ _ _ _ _ => (pgT (n := 2) (K := K) rfl (by rfl) (pgs_cons (pg_name (i := 9) sc_picture.nd rfl (.inl rfl)) (pgs_cons (pg_name (i := 10) sc_picture.nd rfl (.inl rfl)) pgs_nil)))) (fun _ _ _ _ _ => pts_nil) (fun _ _ _ _ _ => (pv 9))) pa_nil)))
      (pss_cons (ps_set (i := 4) sc_picture.nd rfl (.inl rfl) (pe_callB (clMin (K := K) rfl rfl) (by rfl) T.z_min (by decide +kernel) (pa_cons (pe_lc (own := [("_", 10), ("k", 3)]) rfl sc_picture.nd (piL (K := K) rfl (pv 0)) (blkOk_by (by kernel_rfl)) (fun _ _ _ _ _ => (pgT (n := 2) (K := K) rfl (by rfl) (pgs_cons (pg_name (i := 10) sc_picture.nd rfl (.inl rfl)) (pgs_cons (pg_name (i := 3) sc_picture.nd rfl (.inl rfl)) pgs_nil)))) (fun _ _ _ _ _ => pts_nil) (fun _ _ _ _ _ => (pv 3))) pa_nil)))
      (pss_cons (ps_set (i := 5) sc_picture.nd rfl (.inl rfl) (pe_callB (clMax (K := K) rfl rfl) (by rfl) T.z_max (by decide +kernel) (pa_cons (pe_lc (own := [("_", 10), ("k", 3)]) rfl sc_picture.nd (piL (K := K) rfl (pv 0)) (blkOk_by (by kernel_rfl)) (fun _ _ _ _ _ => (pgT (n := 2) (K := K) rfl (by rfl) (pgs_cons (pg_name (i := 10) sc_picture.nd rfl (.inl rfl)) (pgs_cons (pg_name (i := 3) sc_picture.nd rfl (.inl rfl)) pgs_nil)))) (fun _ _ _ _ _ => pts_nil) (fun _ _ _ _ _ => (pv 3))) pa_nil)))
      (pss_cons (ps_if (PW.pt (pw_or (pt_cmpR op_ge (pe_op op_sub (pv 2) (pv 1)) (pe_gv (by rfl) T.g_MOST_IN_PICTURE) (nomark _)) (pw_or1 (pt_cmpR op_ge (pe_op op_sub (pv 5) (pv 4)) (pe_gv (by rfl) T.g_MOST_IN_PICTURE) (nomark _)))))
        pss_never
        pss_nil)
      (pss_cons (ps_set (i := 6) sc_picture.nd rfl (.inr rfl) (pe_dcT (own := [("pixel", 8)]) rfl hr.units sc_picture.nd (piL (K := K) rfl (pv 0)) (blkOk_by (by kernel_rfl)) (fun _ _ _ _ _ => (pg_name (i := 8) sc_picture.nd rfl (.inl rfl))) (fun _ _ _ _ _ => pts_nil) (fun _ _ _ _ _ => (pv 8)) (fun _ _ _ _ _ => pe_bl)))
      (pss_cons (ps_set (i := 7) sc_picture.nd rfl (.inl rfl) (pe_lst pa_nil))
      (pss_cons (ps_for PassesOwn.never rfl (pi_range3 (by rfl) T.z_range (pa_cons (pv 5) (pa_cons (pe_op op_sub (pv 4) pe_int) (pa_cons (pe_un un_neg pe_int) pa_nil)))) (pg_name (i := 3) sc_picture.nd rfl (.inr rfl))
        (pss_one (ps_expr (pe_bm PySem.F.plainAttrs_list PySem.F.slot_list_append PySem.F.type_list_append mt_append (pv 7) (pa_cons (pe_join pe_str (pe_lc (own := [("i", 9)]) rfl sc_picture.nd (pi_range2 (by rfl) T.z_range (pa_cons (pv 1) (pa_cons (pe_op op_add (pv 2) pe_int) pa_nil))) (blkOk_by (by kernel_rfl)) (fun _ _ _ _ _ => (pg_name (i := 9) sc_picture.nd rfl (.inl rfl))) (fun _ _ _ _ _ => pts_nil) (fun _ _ _ _ _ => (pe_ifExp (pt_cmp (pc_din (hu_of hr) (pe_tup (pa_cons (pv 9) (pa_cons (pv 3) pa_nil))) (pv 6))) pe_str pe_str)))) pa_nil)))))
      (pss_one (ps_ret (pv 7)))))))))))), ?_⟩
    walk_at "fl.w"
    rcases q with ⟨rfl, q⟩ | ⟨l, r, b, t, hE, hlr, hbt, q⟩
    · refine g_tru0 (SqL.of hls) ?_
      walk_at "fl.w"
      exact q _ _ (Fl.Same.new (by assumption)) upd_same
    · obtain ⟨p0, L0, rfl⟩ : ∃ p L0, L = p :: L0 := by
        cases L with
        | nil => cases hE.hl.1
        | cons p L => exact ⟨p, L, rfl⟩
      refine g_tru1 (x := .ref p0.1) (SqL.of hls) ?_
      have nr := hE.near
      have o1 : l ≤ r := hE.hl.2 r hE.hr.1
      have o2 : b ≤ t := hE.hb.2 t hE.ht.1
      walk_at "fl.w"
      refine lcPI (fun p => p.1) hL (by omega) (fun D H2 b u v hD sm hb R hR => ?_) (fun D1 H1 sm1 hD1 => ?_)
      · walk_at "fl.w"
        refine ⟨rfl, ?_⟩
        walk_at "fl.w"
        exact hR
      refine g_minL (SqL.of hD1) hE.hl ?_
      have hls1 := sm1 _ _ hls
      walk_at "fl.w"
      refine lcPI (fun p => p.1) (hL.same sm1) (by omega) (fun D H2 b u v hD sm hb R hR => ?_) (fun D2 H2 sm2 hD2 => ?_)
      · walk_at "fl.w"
        refine ⟨rfl, ?_⟩
        walk_at "fl.w"
        exact hR
      refine g_maxL (SqL.of hD2) hE.hr ?_
      have hls2 := sm2 _ _ hls1
      walk_at "fl.w"
      refine lcPI (fun p => p.2) ((hL.same sm1).same sm2) (by omega) (fun D H2 b u v hD sm hb R hR => ?_) (fun D3 H3 sm3 hD3 => ?_)
      · walk_at "fl.w"
        refine ⟨rfl, ?_⟩
        walk_at "fl.w"
        exact hR
      refine g_minL (SqL.of hD3) hE.hb ?_
      have hls3 := sm3 _ _ hls2
      walk_at "fl.w"
      refine lcPI (fun p => p.2) (((hL.same sm1).same sm2).same sm3) (by omega) (fun D H2 b u v hD sm hb R hR => ?_) (fun D4 H4 sm4 hD4 => ?_)
      · walk_at "fl.w"
        refine ⟨rfl, ?_⟩
        walk_at "fl.w"
        exact hR
      refine g_maxL (SqL.of hD4) hE.ht ?_
      have hls4 := sm4 _ _ hls3
      have hL4 := (((hL.same sm1).same sm2).same sm3).same sm4
      have smA := ((sm1.trans sm2).trans sm3).trans sm4
      walk_at "fl.w"
      refine g_ite (fun h => absurd h (by omega)) (fun _ => ?_)
      walk_at "fl.w"
      refine g_ite (fun h => absurd h (by omega)) (fun _ => ?_)
      walk_at "fl.w"
      rename_i dd hdd
      revert dd
      refine dcP hL4 (by omega) ?_ ?_
      · intro D H2 b hD R hR
        refine ⟨rfl, ?_⟩
        walk_at "fl.w"
        exact hR _
      intro dd H5 kvs sm5 hdd hk hm
      walk_at "fl.w"
      rename_i rr hrr
      have hd5 := raw_new (u := .lst []) hrr hk
      have ndr : dd ≠ rr := fun e => by rw [e, upd_same] at hd5; cases hd5
      have smB : Same H (upd H5 rr (.lst [])) := (smA.trans sm5).trans (Fl.Same.new hrr)
      refine ⟨t, b - 1, -1, (t - (b - 1)).toNat, rfl, RgC.neg (by omega) (by omega) (by omega) (by omega), ?_⟩
      have frr : H rr = none := Same.free (smA.trans sm5) hrr
      refine forK_c (fun i σ' H' => (∃ u3 u8 u9 u10, σ' = [some (.ref a), some (.int l), some (.int r), u3, some (.int b), some (.int t), some (.ref dd), some (.ref rr), u8, u9, u10]) ∧ H' rr = some (.lst (((List.range i).map fun j : Nat => rowT (memK (p0 :: L0)) l (r + 1 - l).toNat (t - (j : Int))).map V.str)) ∧ H' dd = some (.dT kvs) ∧ Same H H') ⟨⟨_, _, _, _, rfl⟩, upd_same, hd5, smB⟩ ?_ ?_
      · intro i σ' H' hi ⟨⟨u3, u8, u9, u10, e⟩, hr6, hd6, sm6⟩
        subst e
        rw [show t + (i : Nat) * -1 = t - (i : Int) by omega]
        walk_at "fl.w"
        refine ⟨⟨_, rfl⟩, ?_⟩
        walk_at "fl.w"
        refine lcRS (fun j : Nat => sgn (memK (p0 :: L0) (l + (j : Int)) (t - (i : Int)))) (by omega) (fun D j H7 hD hj sm7 R hR => ⟨rfl, ?_⟩) (fun D H7 sm7 hD => ?_)
        · have hd7 := sm7 _ _ hd6
          walk_at "fl.w"
          rename_i tp htp
          refine ⟨dd, _, rfl, DGet.t (k := [.inl (l + (j : Int)), .inl (t - (i : Int))]) (raw_new htp hd7) upd_same, ?_⟩
          have e1 := hm [l + (j : Int), t - (i : Int)]
          rw [show ([l + (j : Int), t - (i : Int)] : List Int).map (Sum.inl : Int → L2.Key) = [.inl (l + (j : Int)), .inl (t - (i : Int))] from rfl] at e1
          rw [e1]
          have hch : sgn (memK (p0 :: L0) (l + (j : Int)) (t - (i : Int))) = if [l + (j : Int), t - (i : Int)] ∈ (p0 :: L0).map (·.2) then ("#" : Str) else "." := by
            unfold sgn memK
            by_cases hc : [l + (j : Int), t - (i : Int)] ∈ (p0 :: L0).map (·.2)
            · rw [if_pos hc, decide_eq_true hc]; rfl
            · rw [if_neg hc, decide_eq_false hc]; rfl
          walk_at "fl.w"
          refine g_ite (fun hc => ?_) (fun hc => ?_)
          · have z := hR _ (Fl.Same.new (o := .tup [.int (l + (j : Int)), .int (t - (i : Int))]) htp)
            rw [hch, if_pos hc] at z
            walk_at "fl.w"
            exact z
          · have z := hR _ (Fl.Same.new (o := .tup [.int (l + (j : Int)), .int (t - (i : Int))]) htp)
            rw [hch, if_neg hc] at z
            walk_at "fl.w"
            exact z
        have hr7 := sm7 _ _ hr6
        refine ⟨_, D, (List.range (r + 1 - l).toNat).map fun j : Nat => sgn (memK (p0 :: L0) (l + (j : Int)) (t - (i : Int))), rfl, rfl, .inl (SqL.of hD), ?_, ?_⟩
        · rw [sum_sgn, List.length_range, empty_eq]
          show _ + _ * 0 ≤ _
          omega
        refine g_nil ?_
        refine g_app hr7 (by rw [List.length_map, List.length_map, List.length_range]; omega) ?_
        refine ⟨⟨_, _, _, _, rfl⟩, ?_, ?_, Same.updN frr (sm6.trans sm7)⟩
        · rw [upd_same, List.range_succ, List.map_append, List.map_append, empty_eq, join_cat]
          rfl
        · rw [upd_ne ndr]
          exact sm7 _ _ hd6
      · intro σ' H' ⟨⟨u3, u8, u9, u10, e⟩, hr6, hd6, sm6⟩
        subst e
        walk_at "fl.w"
        exact q _ _ sm6 hr6
end
end K60

set_option Elab.async false
set_option linter.all false
set_option maxRecDepth 100000
set_option maxHeartbeats 4000000
set_option exponentiation.threshold 20000
namespace K60
open PySem PySem.Spec PyProof.Rows L2 Fl
-- facts of a place in the heap
local macro_rules | `(tactic| walk_at "fl.ne") => `(tactic| first
  | assumption
  | exact Ne.symm (by assumption)
  | ((with_reducible apply DeckAt.ne'); (focus assumption); walk_at "fl.deck"))
local macro_rules | `(tactic| walk_at "fl.look") => `(tactic| first
  | assumption
  | ((with_reducible show RV _ _ _ _); (with_reducible apply RV.ex1); (focus assumption); (focus walk_at "fl.ne"); walk_at "fl.look")
  | ((with_reducible show RV _ _ _ _); (with_reducible apply RV.same); (focus assumption); walk_at "fl.look")
  | ((with_reducible show RV _ _ _ _); (with_reducible apply RV.same); (focus exact Fl.Same.new (by assumption)); walk_at "fl.look")
  | (with_reducible exact SqL.of upd_same)
  | (with_reducible exact SqT.of upd_same)
  | ((with_reducible apply SqL.of); assumption)
  | ((with_reducible apply SqT.of); assumption)
  | ((with_reducible apply Ex1.l); (focus with_reducible exact Ex1.upd); (focus walk_at "fl.ne"); walk_at "fl.look")
  | ((with_reducible apply Ex1.t); (focus with_reducible exact Ex1.upd); (focus walk_at "fl.ne"); walk_at "fl.look")
  | ((with_reducible apply Same.seq); (focus exact Fl.Same.new (by assumption)); walk_at "fl.look")
  | ((with_reducible apply Fl.Same.t); (focus exact Fl.Same.new (by assumption)); walk_at "fl.look")
  | ((with_reducible apply Ex1.l); (focus assumption); (focus walk_at "fl.ne"); walk_at "fl.look")
  | ((with_reducible apply Ex1.t); (focus assumption); (focus walk_at "fl.ne"); walk_at "fl.look")
  | ((with_reducible apply Same.seq); (focus assumption); walk_at "fl.look")
  | ((with_reducible apply Fl.Same.t); (focus assumption); walk_at "fl.look"))
-- arithmetic that an operation asks
local macro_rules | `(tactic| walk_at "fl.side") => `(tactic| first
  | decide
  | assumption
  | omega
  | (simp only [List.length_cons, List.length_nil]; omega)
  | exact Or.inr (by decide)
  | (refine ⟨?_, ?_, ?_⟩ <;> decide)
  | exact Or.inl (by decide)
  | exact mulW (by first | assumption | omega) (by first | assumption | omega)
  | exact divW (by first | assumption | omega) (by first | assumption | omega)
  | exact divS (by first | assumption | omega) (by first | assumption | omega)
  | exact div62 (by first | assumption | decide | omega) (by first | assumption | decide | omega))
local macro_rules | `(tactic| walk_at "fl.kit") => `(tactic| first | exact kit_int_int | exact kit_int_bool | exact kit_int_tuple | exact kit_int_str | exact kit_int_list | exact kit_int_dict | exact kit_bool_int | exact kit_bool_bool | exact kit_bool_tuple | exact kit_bool_str | exact kit_bool_list | exact kit_bool_dict | exact kit_tuple_int | exact kit_tuple_bool | exact kit_tuple_tuple | exact kit_tuple_str | exact kit_tuple_list | exact kit_tuple_dict | exact kit_str_int | exact kit_str_bool | exact kit_str_tuple | exact kit_str_str | exact kit_str_list | exact kit_str_dict | exact kit_list_int | exact kit_list_bool | exact kit_list_tuple | exact kit_list_str | exact kit_list_list | exact kit_list_dict | exact kit_NoneType_int | exact kit_NoneType_bool | exact kit_NoneType_tuple | exact kit_NoneType_str | exact kit_NoneType_list | exact kit_NoneType_dict | exact kit_dict_int | exact kit_dict_bool | exact kit_dict_tuple | exact kit_dict_str | exact kit_dict_list | exact kit_dict_dict)
local macro_rules | `(tactic| walk_at "fl.ty") => `(tactic| first
  | exact .base (.int _)
  | exact .base (.bl _)
  | exact .base .non
  | exact .base (.str _)
  | exact .base (.tup upd_same)
  | exact .base (.lst upd_same)
  | (apply TyX.base; apply TyOf.tup; assumption)
  | (apply TyX.base; apply TyOf.lst; assumption))
local macro_rules | `(tactic| walk_at "fl.deck") => `(tactic| first
  | assumption
  | (refine DeckAt.same ?_ (Fl.Same.new (by assumption)); walk_at "fl.deck")
  | (refine DeckAt.same ?_ (by assumption); walk_at "fl.deck"))
local macro_rules | `(tactic| walk_at "fl.ex1") => `(tactic| first
  | assumption
  | exact Ex1.refl
  | exact Ex1.upd
  | (refine Ex1.trans ?_ Ex1.upd; walk_at "fl.ex1")
  | (refine Ex1.trans ?_ (Ex1.of (Fl.Same.new (by assumption))); walk_at "fl.ex1")
  | (refine Ex1.trans ?_ (by assumption); walk_at "fl.ex1")
  | (refine Ex1.trans ?_ (Ex1.of (by assumption)); walk_at "fl.ex1"))
local macro_rules | `(tactic| walk_at "fl.pre") => `(tactic| first | assumption | trivial | exact ne_of_num (by assumption))
local macro_rules | `(tactic| walk_at "fl.szq") => `(tactic| first
  | assumption
  | ((with_reducible apply Szq.add); (focus walk_at "fl.szq"); (focus walk_at "fl.szq"))
  | ((with_reducible apply Szq.sub); (focus walk_at "fl.szq"); (focus walk_at "fl.szq"))
  | ((with_reducible apply Szq.mul); (focus walk_at "fl.szq"); (focus walk_at "fl.szq"))
  | ((with_reducible apply Szq.div); (focus walk_at "fl.szq"); (focus walk_at "fl.szq"); (focus walk_at "fl.pre"))
  | exact szq_div (k := 41) (by decide) (by omega) (by decide))
local macro_rules | `(tactic| walk_at "fl.md") => `(tactic| first | assumption | ((with_reducible apply Szq.md); (focus walk_at "fl.szq"); decide))
local macro_rules | `(tactic| walk_at "fl.rat") => `(tactic| first
  | rfl
  | exact Rat.add_comm _ _
  | exact Rat.mul_comm _ _
  | exact Rat.add_assoc _ _ _
  | exact Rat.mul_assoc _ _ _
  | exact Rat.mul_add _ _ _
  | exact Rat.add_sub_cancel
  | exact Rat.mul_div_cancel (ne_of_num (by assumption))
  | exact Rat.div_mul_cancel (ne_of_num (by assumption)))
-- one step of a reading
local macro_rules | `(tactic| walk_at "fl.s") => `(tactic| first
  | (with_reducible refine g_seq ?_)
  | (with_reducible refine g_op ?_)
  | ((with_reducible apply g_var); (focus rfl))
  | (with_reducible refine g_c ?_)
  | (with_reducible refine g_I0 ?_)
  | ((with_reducible apply g_I); (focus walk_at "fl.side"))
  | (with_reducible refine g_U ?_)
  | (with_reducible refine g_un ?_)
  | ((with_reducible apply g_ixL); (focus walk_at "fl.look"); (focus first | assumption | rfl))
  | ((with_reducible apply g_ixT); (focus walk_at "fl.look"); (focus first | assumption | rfl))
  | (with_reducible refine g_cb1 ?_)
  | (with_reducible refine g_cb2 ?_)
  | (with_reducible refine g_int ?_)
  | (with_reducible refine g_intB ?_)
  | (with_reducible refine g_abs ?_)
  | (with_reducible refine g_max ?_)
  | (with_reducible refine g_min ?_)
  | ((with_reducible apply g_lenL); (focus walk_at "fl.look"))
  | ((with_reducible apply g_lenT); (focus walk_at "fl.look"))
  | (with_reducible refine g_gcd ?_)
  | ((with_reducible apply g_isiT); (focus walk_at "fl.ty"); (focus walk_at "fl.kit"))
  | ((with_reducible apply g_listL); (focus walk_at "fl.look"); intro _ _)
  | ((with_reducible refine g_new ?_ ?_); (focus walk_at "fl.side"); intro _ _)
  | ((with_reducible refine g_tup2 ?_))
  | (with_reducible refine g_eqI ?_)
  | (with_reducible refine g_neI ?_)
  | (with_reducible refine g_eqB ?_)
  | (with_reducible refine g_test ?_)
  | (with_reducible refine g_B ?_)
  | (with_reducible refine g_bl ?_)
  | (with_reducible refine g_ex ?_)
  | (with_reducible refine g_not ?_)
  | (with_reducible refine g_and ?_)
  | (with_reducible refine g_or ?_)
  | (with_reducible refine g_andV ?_)
  | (with_reducible refine g_orV ?_)
  | (with_reducible refine g_notV ?_)
  | (with_reducible refine g_next ?_)
  | (with_reducible refine g_ret ?_)
  | (with_reducible refine g_if ?_)
  | (with_reducible refine g_setS ?_)
  | ((with_reducible apply g_setL); (focus first | assumption | exact upd_same); (focus rfl))
  | (with_reducible refine g_set ?_)
  | ((with_reducible apply g_aug); (focus rfl))
  | (with_reducible refine g_ipI ?_)
  | (with_reducible refine g_drop ?_)
  | (with_reducible refine g_call ?_)
  | ((with_reducible refine draw_app ?_ ?_ ?_ ?_); (focus walk_at "fl.deck"); (focus walk_at "fl.side"); (focus walk_at "fl.side"); intro _ _ _ _ _ _)
  | ((with_reducible refine big_app ?_ ?_); (focus walk_at "fl.deck"); intro _ _ _ _ _ _ _ _ _)
  | ((with_reducible apply deck_app); (focus walk_at "fl.look"); intro _ _ _ _ _)
  | ((with_reducible refine fra_app ?_ ?_ ?_ ?_); (focus walk_at "fl.side"); (focus walk_at "fl.side"); (focus walk_at "fl.side"); intro _ _ _ _ _)
  | ((with_reducible apply cmp_app); (focus walk_at "fl.look"); (focus walk_at "fl.look"); (focus assumption); (focus assumption))
  | ((with_reducible apply down2_app); (focus walk_at "fl.look"); (focus assumption); intro _ _ _ _ _ _)
  | ((with_reducible apply near2_app); (focus walk_at "fl.look"); (focus assumption); intro _ _ _ _ _)
  | (with_reducible refine isint_app ?_)
  | (with_reducible refine sameI_app ?_)
  | (with_reducible refine g_callD ?_)
  | ((with_reducible show spRatq _ _ _ _ _); (apply ratq_app); (focus walk_at "fl.side"); (focus walk_at "fl.side"); (focus walk_at "fl.side"); intro _ _ _ _ _)
  | ((with_reducible apply bin_app); (focus walk_at "fl.look"); (focus walk_at "fl.look"); (focus walk_at "fl.md"); (focus walk_at "fl.md"); (focus walk_at "fl.pre"); intro _ _ _ _ _)
  | ((with_reducible apply cq_app); (focus walk_at "fl.look"); (focus walk_at "fl.look"); (focus walk_at "fl.md"); (focus walk_at "fl.md"))
  | ((with_reducible apply nr_app); (focus walk_at "fl.look"); (focus walk_at "fl.md"))
  | ((with_reducible apply ne_app); (focus walk_at "fl.look"); (focus walk_at "fl.look"); (focus walk_at "fl.rat"))
  | (with_reducible refine g_cons ?_)
  | (with_reducible refine g_nil ?_)
  | (with_reducible refine g_tup2 ?_)
  | (with_reducible refine g_tupN ?_)
  | (with_reducible refine g_lstN ?_)
  | (with_reducible refine g_iteT ?_)
  | (with_reducible refine g_iteF ?_)
  | (with_reducible refine g_iteNT ?_)
  | (with_reducible refine g_iteNF ?_)
  | ((with_reducible show ∀ (p : Addr), (_ : Option HO) = none → _); intro _ _))
local macro_rules | `(tactic| walk_at "fl.go") => `(tactic| repeat walk_at "fl.s")
local macro_rules | `(tactic| walk_at "fl.run") => `(tactic| ((repeat walk_at "fl.s"); try (first
  | (refine g_ite (fun _ => ?_) (fun _ => ?_); all_goals walk_at "fl.run")
  | (refine g_iteN (fun _ => ?_) (fun _ => ?_); all_goals walk_at "fl.run"))))

local macro_rules | `(tactic| walk_at "fl.raw") => `(tactic| first
  | assumption
  | exact upd_same
  | ((with_reducible apply raw_new); (focus assumption); walk_at "fl.raw")
  | ((with_reducible apply raw_same); (focus assumption); walk_at "fl.raw")
  | ((with_reducible apply raw_on); (focus assumption); (focus walk_at "fl.nd"); walk_at "fl.raw")
  | ((with_reducible apply raw_frd); (focus assumption); (focus walk_at "fl.nd"); walk_at "fl.raw"))
local macro_rules | `(tactic| walk_at "fl.nd") => `(tactic| first
  | assumption
  | exact Dk.ned2 (by assumption) (by assumption))
local macro_rules | `(tactic| walk_at "fl.frd") => `(tactic| first
  | assumption
  | exact Fl.Fr.refl
  | ((with_reducible apply Fl.Fr.newT); (focus assumption); walk_at "fl.frd")
  | ((with_reducible apply Fl.Fr.ond); (focus assumption); walk_at "fl.frd")
  | ((with_reducible apply Fl.Fr.smT); (focus assumption); walk_at "fl.frd")
  | ((with_reducible apply Fl.Fr.frT); (focus assumption); walk_at "fl.frd"))
local macro_rules | `(tactic| walk_at "fl.lk") => `(tactic| first
  | ((with_reducible apply SqL.of); walk_at "fl.raw")
  | ((with_reducible apply SqT.of); walk_at "fl.raw"))
local macro_rules | `(tactic| walk_at "fl.dq") => `(tactic| first
  | assumption
  | exact Dq.int _
  | exact Dq.bl _
  | exact Dq.non
  | ((with_reducible apply Dq.newH); (focus assumption); walk_at "fl.dq")
  | ((with_reducible apply Dq.sm); (focus assumption); walk_at "fl.dq")
  | ((with_reducible apply Dq.ond); (focus assumption); (focus first | assumption | simp); walk_at "fl.dq")
  | ((with_reducible apply Dq.frd); (focus assumption); (focus first | assumption | simp); walk_at "fl.dq"))
local macro_rules | `(tactic| walk_at "fl.dqa") => `(tactic| first
  | assumption
  | exact DqA.nil
  | ((with_reducible apply DqA.cons); (focus walk_at "fl.dq"); walk_at "fl.dqa")
  | ((with_reducible apply DqA.newH); (focus assumption); walk_at "fl.dqa")
  | ((with_reducible apply DqA.sm); (focus assumption); walk_at "fl.dqa"))
local macro_rules | `(tactic| walk_at "fl.al") => `(tactic| first
  | assumption
  | exact Al.nil
  | ((with_reducible apply Al.newH); (focus assumption); walk_at "fl.al")
  | ((with_reducible apply Al.sm); (focus assumption); walk_at "fl.al")
  | ((with_reducible apply Al.ond); (focus assumption); (focus assumption); walk_at "fl.al")
  | ((with_reducible apply Al.frd); (focus assumption); (focus assumption); walk_at "fl.al"))
local macro_rules | `(tactic| walk_at "fl.sm") => `(tactic| first
  | assumption
  | exact L2.Same.refl _
  | ((with_reducible apply Fl.Same.newT); (focus assumption); walk_at "fl.sm")
  | ((with_reducible apply Fl.Same.sm); (focus assumption); walk_at "fl.sm"))
local macro_rules | `(tactic| walk_at "fl.dk") => `(tactic| first
  | assumption
  | ((with_reducible apply Dk.newH); (focus assumption); walk_at "fl.dk")
  | ((with_reducible apply Dk.sm); (focus assumption); walk_at "fl.dk"))
local macro_rules | `(tactic| walk_at "fl.cz") => `(tactic| ((try simp only [List.length_drop, List.length_take, List.length_append, List.length_cons, List.length_nil, List.length_map, List.length_reverse, List.length_dropLast]); omega))
-- readings with plain lookups first, then the older steps
local macro_rules | `(tactic| walk_at "fl.t") => `(tactic| first
  | ((with_reducible apply g_ixL); (focus walk_at "fl.lk"); (focus first | assumption | exact at0 | rfl))
  | ((with_reducible apply g_ixT); (focus walk_at "fl.lk"); (focus first | assumption | rfl))
  | ((with_reducible apply g_lenL); (focus walk_at "fl.lk"))
  | ((with_reducible apply g_lenT); (focus walk_at "fl.lk"))
  | ((with_reducible apply g_listL); (focus walk_at "fl.lk"); intro _ _)
  | (with_reducible refine g_sl ?_)
  | (with_reducible refine g_part ?_)
  | (with_reducible refine g_nop ?_)
  | (with_reducible refine g_ei ?_)
  | ((with_reducible apply g_slF1); (focus walk_at "fl.lk"); intro _ _)
  | ((with_reducible apply g_slT1); (focus walk_at "fl.lk"); intro _ _)
  | ((with_reducible apply g_slB); (focus walk_at "fl.lk"); intro _ _)
  | ((with_reducible apply g_slE); (focus walk_at "fl.lk"); intro _ _)
  | ((with_reducible apply g_slF); (focus walk_at "fl.lk"); intro _ _)
  | ((with_reducible apply g_slTo); (focus walk_at "fl.lk"); intro _ _)
  | ((with_reducible apply g_sl2); (focus walk_at "fl.lk"); intro _ _)
  | ((with_reducible apply g_cat); (focus walk_at "fl.raw"); (focus walk_at "fl.raw"); (focus walk_at "fl.cz"); intro _ _)
  | ((with_reducible apply dr_app); (focus walk_at "fl.dk"); (focus first | (with_reducible assumption) | omega | walk_at "fl.side"); (focus first | (with_reducible assumption) | omega | walk_at "fl.side"); intro _ _ _ _ _ _)
  | ((with_reducible apply dk_app); (focus assumption); intro _ _ _ _ _)
  | ((with_reducible refine g_sz ?_ ?_); (focus walk_at "fl.cz"))
  | (with_reducible refine g_name ?_)
  | ((with_reducible apply g_minL); (focus walk_at "fl.lk"); (focus assumption))
  | ((with_reducible apply g_maxL); (focus walk_at "fl.lk"); (focus assumption))
  | ((with_reducible apply g_sum); (focus walk_at "fl.lk"))
  | (with_reducible refine g_nn ?_)
  | (with_reducible refine g_tru ?_)
  | ((with_reducible apply g_tru0); (focus walk_at "fl.lk"))
  | ((with_reducible apply g_tru1); (focus walk_at "fl.lk"))
  | (with_reducible refine g_yes ?_)
  | ((with_reducible apply g_gtup); (focus walk_at "fl.lk"); (focus rfl))
  | (with_reducible refine g_gcons ?_)
  | (with_reducible refine g_gnil ?_)
  | (with_reducible refine g_bm ?_)
  | ((with_reducible apply g_tyL); (focus walk_at "fl.lk"))
  | ((with_reducible apply g_app); (focus walk_at "fl.raw"); (focus walk_at "fl.cz"))
  | ((with_reducible apply g_ext); (focus walk_at "fl.raw"); (focus walk_at "fl.raw"); (focus walk_at "fl.cz"))
  | (with_reducible refine g_lc ?_)
  | (with_reducible refine g_for ?_)
  | (with_reducible refine g_rng1 ?_)
  | (with_reducible refine g_rng2 ?_)
  | (with_reducible refine g_il ?_)
  | (with_reducible refine g_zip ?_)
  | ((with_reducible apply g_e1); (focus walk_at "fl.cz"); (focus walk_at "fl.cz"))
  | ((with_reducible apply g_e2); (focus (refine ⟨?_, ?_, ?_, ?_⟩ <;> walk_at "fl.cz")))
  | ((with_reducible apply g_el); (focus walk_at "fl.lk"))
  | ((with_reducible apply g_ez); (focus walk_at "fl.lk"); (focus walk_at "fl.lk"))
  | walk_at "fl.s")
local macro_rules | `(tactic| walk_at "fl.w") => `(tactic| repeat walk_at "fl.t")
local macro_rules | `(tactic| walk_at "fl.wr") => `(tactic| ((repeat walk_at "fl.t"); try (first
  | (refine g_ite (fun _ => ?_) (fun _ => ?_); all_goals walk_at "fl.wr")
  | (refine g_iteN (fun _ => ?_) (fun _ => ?_); all_goals walk_at "fl.wr"))))

local macro_rules | `(tactic| walk_at "fl.t") => `(tactic| first
  | ((with_reducible apply g_slR0); (focus walk_at "fl.lk"); intro _ _)
  | (with_reducible refine g_lrev ?_)
  | ((with_reducible apply g_lrev2); (focus walk_at "fl.lk"); intro _ _)
  | (with_reducible refine g_eqS ?_))
local macro_rules | `(tactic| walk_at "fl.w") => `(tactic| repeat walk_at "fl.t")

section
variable {P : Program} {w : World} {K : PySem.W.Frag} {mg : Str → Option Value} {base : Heap}
local macro_rules | `(tactic| walk_at "fl.t") => `(tactic| first
  | (with_reducible refine g_ifE ?_)
  | (with_reducible refine g_din ?_)
  | (with_reducible refine g_rng3 ?_)
  | (with_reducible refine g_dcT ?_)
  | (with_reducible refine g_join ?_))
local macro_rules | `(tactic| walk_at "fl.w") => `(tactic| repeat walk_at "fl.t")
theorem mk_TL (T : Txt K mg) : MkX1 P w K mg base 1 "TooLarge" "limit" ps_TooLarge :=
  mkX1_of T.mk_TooLarge rfl sc_TooLarge (fun kV doc pm an cdv ct us h => match us, h with | [_, _], _ => rfl) (fun fa cdv A outer s H a y Q E hr hy h q => by
    refine ⟨_, pss_cons (ps_expr (pe_binit (by rfl) T.x_FleuronError T.b_FleuronError (pa_cons (pv 0) (pa_cons (pe_joined (.cons pe_str (.cons (pe_fmt (pv 1)) .nil))) pa_nil)))) (pss_one (ps_ost (pv 0) (pv 1))), ?_⟩
    have hz : (1100 : Nat) ≤ sizeLine := by decide
    refine ⟨.ref a, rfl, ⟨_, rfl, ?_, .str y, rfl, .inl ⟨y, rfl, by omega, ⟨y, rfl, ?_, ?_⟩⟩⟩⟩
    · show (Str.empty ++ (Str.ofString "too large: ")).length ≤ sizeLine
      exact Nat.le_trans (by decide) hz
    · show (Str.empty.cps ++ (Str.ofString "too large: ").cps ++ y.cps).size ≤ sizeLine
      have h1 : y.cps.size ≤ 1000 := hy
      have h2 : (Str.empty.cps).size = 0 := rfl
      have h3 : (Str.ofString "too large: ").cps.size ≤ 20 := by decide
      rw [Array.size_append, Array.size_append]
      omega
    · exact ⟨a, adr mg "TooLarge", [_], rfl, by simp, T.mk_TooLarge.o, h, .str y, rfl, .ref a, rfl, a, adr mg "TooLarge", rfl, T.mk_TooLarge.o, T.mk_TooLarge.n, .inl ⟨h, fun dx hd hne => q dx hd hne⟩⟩)
/-- a list of pairs too large for a picture -/
def spPicX (Z : Addr) : Sp := fun vs H _ E => ∃ (a : Addr) (L : List (Addr × List Int)) (l r b t : Int), vs = [.ref a] ∧ PL H a L ∧ L.length < 64 ∧ Ext L l r b t ∧ (1000 ≤ r - l ∨ 1000 ≤ t - b) ∧ ∀ dx H', Same H H' → E (.ref Z) (some dx) H'
theorem ok_pictureX (T : Txt K mg) : HasX P w K mg base 3 "picture" ps_picture (spPicX (adr mg "TooLarge")) := by
  have hM_TooLarge := mk_TL (P := P) (w := w) (base := base) T
  refine hasX_of T.d_picture sc_picture bd_picture (fun vs H Q E h => ?_) (fun f cdv A outer s H vs Q E hr h => ?_)
  · obtain ⟨a, L, _, _, _, _, rfl, _⟩ := h
    rfl
  · obtain ⟨a, L, l, r, b, t, rfl, hL, hz, hE, hbig, q⟩ := h
    have hls := hL.ls
    refine ⟨_, (pss_cons (ps_if (pt_not (ptTru (K := K) rfl (pv 0) (by intro _; rfl)))
        pss_never
        pss_nil)
      (pss_cons (ps_set (i := 1) sc_picture.nd rfl (.inl rfl) (pe_callB (clMin (K := K) rfl rfl) (by rfl) T.z_min (by decide +kernel) (pa_cons (pe_lc (own := [("i", 9), ("_", 10)]) rfl sc_picture.nd (piL (K := K) rfl (pv 0)) (blkOk_by (by kernel_rfl)) (fun _ _ _ _ _ => (pgT (n := 2) (K := K) rfl (by rfl) (pgs_cons (pg_name (i := 9) sc_picture.nd rfl (.inl rfl)) (pgs_cons (pg_name (i := 10) sc_picture.nd rfl (.inl rfl)) pgs_nil)))) (fun _ _ _ _ _ => pts_nil) (fun _ _ _ _ _ => (pv 9))) pa_nil)))
      (pss_cons (ps_set (i := 2) sc_picture.nd rfl (.inl rfl) (pe_callB (clMax (K := K) rfl rfl) (by rfl) T.z_max (by decide +kernel) (pa_cons (pe_lc (own := [("i", 9), ("_", 10)]) rfl sc_picture.nd (piL (K := K) rfl (pv 0)) (blkOk_by (by kernel_rfl)) (fun _ _ _ _ _ => (pgT (n := 2) (K := K) rfl (by rfl) (pgs_cons (pg_name (i := 9) sc_picture.nd rfl (.inl rfl)) (pgs_cons (pg_name (i := 10) sc_picture.nd rfl (.inl rfl)) pgs_nil)))) (fun _ _ _ _ _ => pts_nil) (fun _ _ _ _ _ => (pv 9))) pa_nil)))
      (pss_cons (ps_set (i := 4) sc_picture.nd rfl (.inl rfl) (pe_callB (clMin (K := K) rfl rfl) (by rfl) T.z_min (by decide +kernel) (pa_cons (pe_lc (own := [("_", 10), ("k", 3)]) rfl sc_picture.nd (piL (K := K) rfl (pv 0)) (blkOk_by (by kernel_rfl)) (fun _ _ _ _ _ => (pgT (n := 2) (K := K) rfl (by rfl) (pgs_cons (pg_name (i := 10) sc_picture.nd rfl (.inl rfl)) (pgs_cons (pg_name (i := 3) sc_picture.nd rfl (.inl rfl)) pgs_nil)))) (fun _ _ _ _ _ => pts_nil) (fun _ _ _ _ _ => (pv 3))) pa_nil)))
      (pss_cons (ps_set (i := 5) sc_picture.nd rfl (.inl rfl) (pe_callB (clMax (K := K) rfl rfl) (by rfl) T.z_max (by decide +kernel) (pa_cons (pe_lc (own := [("_", 10), ("k", 3)]) rfl sc_picture.nd (piL (K := K) rfl (pv 0)) (blkOk_by (by kernel_rfl)) (fun _ _ _ _ _ => (pgT (n := 2) (K := K) rfl (by rfl) (pgs_cons (pg_name (i := 10) sc_picture.nd rfl (.inl rfl)) (pgs_cons (pg_name (i := 3) sc_picture.nd rfl (.inl rfl)) pgs_nil)))) (fun _ _ _ _ _ => pts_nil) (fun _ _ _ _ _ => (pv 3))) pa_nil)))
      (pss_cons (ps_if (PW.pt (pw_or (pt_cmpR op_ge (pe_op op_sub (pv 2) (pv 1)) (pe_gv (by rfl) T.g_MOST_IN_PICTURE) (nomark _)) (pw_or1 (pt_cmpR op_ge (pe_op op_sub (pv 5) (pv 4)) (pe_gv (by rfl) T.g_MOST_IN_PICTURE) (nomark _)))))
        (pss_one (ps_raise1 hM_TooLarge rfl (hr.mono (by decide)) (takes_of rfl rfl rfl rfl) (pa_cons pe_str pa_nil)))
        pss_nil)
      (pss_cons ps_never
      (pss_cons ps_never
      (pss_cons ps_never
      (pss_one ps_never)))))))))), ?_⟩
    walk_at "fl.w"
    obtain ⟨p0, L0, rfl⟩ : ∃ p L0, L = p :: L0 := by
      cases L with
      | nil => cases hE.hl.1
      | cons p L => exact ⟨p, L, rfl⟩
    refine g_tru1 (x := .ref p0.1) (SqL.of hls) ?_
    have nr := hE.near
    have o1 : l ≤ r := hE.hl.2 r hE.hr.1
    have o2 : b ≤ t := hE.hb.2 t hE.ht.1
    walk_at "fl.w"
    refine lcPI (fun p => p.1) hL (by omega) (fun D H2 b u v hD sm hb R hR => ?_) (fun D1 H1 sm1 hD1 => ?_)
    · walk_at "fl.w"
      refine ⟨rfl, ?_⟩
      walk_at "fl.w"
      exact hR
    refine g_minL (SqL.of hD1) hE.hl ?_
    have hls1 := sm1 _ _ hls
    walk_at "fl.w"
    refine lcPI (fun p => p.1) (hL.same sm1) (by omega) (fun D H2 b u v hD sm hb R hR => ?_) (fun D2 H2 sm2 hD2 => ?_)
    · walk_at "fl.w"
      refine ⟨rfl, ?_⟩
      walk_at "fl.w"
      exact hR
    refine g_maxL (SqL.of hD2) hE.hr ?_
    have hls2 := sm2 _ _ hls1
    walk_at "fl.w"
    refine lcPI (fun p => p.2) ((hL.same sm1).same sm2) (by omega) (fun D H2 b u v hD sm hb R hR => ?_) (fun D3 H3 sm3 hD3 => ?_)
    · walk_at "fl.w"
      refine ⟨rfl, ?_⟩
      walk_at "fl.w"
      exact hR
    refine g_minL (SqL.of hD3) hE.hb ?_
    have hls3 := sm3 _ _ hls2
    walk_at "fl.w"
    refine lcPI (fun p => p.2) (((hL.same sm1).same sm2).same sm3) (by omega) (fun D H2 b u v hD sm hb R hR => ?_) (fun D4 H4 sm4 hD4 => ?_)
    · walk_at "fl.w"
      refine ⟨rfl, ?_⟩
      walk_at "fl.w"
      exact hR
    refine g_maxL (SqL.of hD4) hE.ht ?_
    have smA := ((sm1.trans sm2).trans sm3).trans sm4
    walk_at "fl.w"
    refine g_ite (fun _ => ?_) (fun h1 => ?_)
    · walk_at "fl.w"
      exact g_raise1 (by decide) fun dx hd => q dx _ (smA.trans (Fl.Same.new hd))
    · walk_at "fl.w"
      refine g_ite (fun _ => ?_) (fun h2 => absurd hbig (by omega))
      walk_at "fl.w"
      exact g_raise1 (by decide) fun dx hd => q dx _ (smA.trans (Fl.Same.new hd))
/-- refused or not -/
def spRef : Sp := fun vs H Q _ => ∃ (a : Addr) (L : List (Addr × List Int)) (l r b t : Int), vs = [.ref a] ∧ PL H a L ∧ L.length < 64 ∧ Ext L l r b t ∧ ∀ H', Same H H' → Q (.bl (decide (1000 ≤ r - l ∨ 1000 ≤ t - b))) H'
theorem ok_law_refused (T : Txt K mg) : Has P w K mg base 5 "_law_refused" ps_law_refused spRef := by
  have h_picture := ok_picture (P := P) (w := w) (base := base) T
  have hX_picture := ok_pictureX (P := P) (w := w) (base := base) T
  refine has_of T.d_law_refused sc_law_refused bd_law_refused (fun vs H Q E h => ?_) (fun f cdv A outer s H vs Q E hr h => ?_)
  · obtain ⟨a, L, _, _, _, _, rfl, _⟩ := h
    rfl
  · obtain ⟨a, L, l, r, b, t, rfl, hL, hz, hE, q⟩ := h
    by_cases hbig : 1000 ≤ r - l ∨ 1000 ≤ t - b
    · rw [decide_eq_true hbig] at q
      refine ⟨_, (pss_cons (ps_try_as (i := 1) rfl rfl sc_law_refused.nd rfl rfl ⟨rfl, by decide, .inl T.mk_TooLarge.g⟩ takes0
        (fun W pn xe tk _ => (pss_one (ps_expr (pe_hX hX_picture (hr.mono (by decide)) tk (pa_cons (pv 0) pa_nil)))))
        (fun a oe cls d pn hz hf => (pss_one (ps_ret pe_bl))))
      (pss_one (ps_ret pe_bl))), ?_⟩
      walk_at "fl.w"
      refine g_callS ?_
      walk_at "fl.w"
      refine ⟨a, L, l, r, b, t, rfl, hL, hz, hE, hbig, fun dx H' sm => ?_⟩
      refine wAs_yes T.ms_TooLarge (fun e he => ?_)
      walk_at "fl.w"
      exact q _ sm
    · rw [decide_eq_false hbig] at q
      refine ⟨_, (pss_cons (ps_try_as (i := 1) rfl rfl sc_law_refused.nd rfl rfl ⟨rfl, by decide, .inl T.mk_TooLarge.g⟩ takes0
        (fun W pn xe tk _ => (pss_one (ps_expr (pe_h h_picture (hr.mono (by decide)) (pa_cons (pv 0) pa_nil)))))
        (fun a oe cls d pn hz hf => (pss_one (ps_ret pe_bl))))
      (pss_one (ps_ret pe_bl))), ?_⟩
      walk_at "fl.w"
      refine ⟨a, L, rfl, hL, hz, .inr ⟨l, r, b, t, hE, by omega, by omega, fun c H' sm hc => ?_⟩⟩
      walk_at "fl.w"
      exact q _ sm
end
end K60

set_option Elab.async false
set_option linter.all false
set_option maxRecDepth 100000
set_option maxHeartbeats 4000000
set_option exponentiation.threshold 20000
namespace K60
open PySem PySem.Spec PyProof.Rows L2 Fl
-- facts of a place in the heap
local macro_rules | `(tactic| walk_at "fl.ne") => `(tactic| first
  | assumption
  | exact Ne.symm (by assumption)
  | ((with_reducible apply DeckAt.ne'); (focus assumption); walk_at "fl.deck"))
local macro_rules | `(tactic| walk_at "fl.look") => `(tactic| first
  | assumption
  | ((with_reducible show RV _ _ _ _); (with_reducible apply RV.ex1); (focus assumption); (focus walk_at "fl.ne"); walk_at "fl.look")
  | ((with_reducible show RV _ _ _ _); (with_reducible apply RV.same); (focus assumption); walk_at "fl.look")
  | ((with_reducible show RV _ _ _ _); (with_reducible apply RV.same); (focus exact Fl.Same.new (by assumption)); walk_at "fl.look")
  | (with_reducible exact SqL.of upd_same)
  | (with_reducible exact SqT.of upd_same)
  | ((with_reducible apply SqL.of); assumption)
  | ((with_reducible apply SqT.of); assumption)
  | ((with_reducible apply Ex1.l); (focus with_reducible exact Ex1.upd); (focus walk_at "fl.ne"); walk_at "fl.look")
  | ((with_reducible apply Ex1.t); (focus with_reducible exact Ex1.upd); (focus walk_at "fl.ne"); walk_at "fl.look")
  | ((with_reducible apply Same.seq); (focus exact Fl.Same.new (by assumption)); walk_at "fl.look")
  | ((with_reducible apply Fl.Same.t); (focus exact Fl.Same.new (by assumption)); walk_at "fl.look")
  | ((with_reducible apply Ex1.l); (focus assumption); (focus walk_at "fl.ne"); walk_at "fl.look")
  | ((with_reducible apply Ex1.t); (focus assumption); (focus walk_at "fl.ne"); walk_at "fl.look")
  | ((with_reducible apply Same.seq); (focus assumption); walk_at "fl.look")
  | ((with_reducible apply Fl.Same.t); (focus assumption); walk_at "fl.look"))
-- arithmetic that an operation asks
local macro_rules | `(tactic| walk_at "fl.side") => `(tactic| first
  | decide
  | assumption
  | omega
  | (simp only [List.length_cons, List.length_nil]; omega)
  | exact Or.inr (by decide)
  | (refine ⟨?_, ?_, ?_⟩ <;> decide)
  | exact Or.inl (by decide)
  | exact mulW (by first | assumption | omega) (by first | assumption | omega)
  | exact divW (by first | assumption | omega) (by first | assumption | omega)
  | exact divS (by first | assumption | omega) (by first | assumption | omega)
  | exact div62 (by first | assumption | decide | omega) (by first | assumption | decide | omega))
local macro_rules | `(tactic| walk_at "fl.kit") => `(tactic| first | exact kit_int_int | exact kit_int_bool | exact kit_int_tuple | exact kit_int_str | exact kit_int_list | exact kit_int_dict | exact kit_bool_int | exact kit_bool_bool | exact kit_bool_tuple | exact kit_bool_str | exact kit_bool_list | exact kit_bool_dict | exact kit_tuple_int | exact kit_tuple_bool | exact kit_tuple_tuple | exact kit_tuple_str | exact kit_tuple_list | exact kit_tuple_dict | exact kit_str_int | exact kit_str_bool | exact kit_str_tuple | exact kit_str_str | exact kit_str_list | exact kit_str_dict | exact kit_list_int | exact kit_list_bool | exact kit_list_tuple | exact kit_list_str | exact kit_list_list | exact kit_list_dict | exact kit_NoneType_int | exact kit_NoneType_bool | exact kit_NoneType_tuple | exact kit_NoneType_str | exact kit_NoneType_list | exact kit_NoneType_dict | exact kit_dict_int | exact kit_dict_bool | exact kit_dict_tuple | exact kit_dict_str | exact kit_dict_list | exact kit_dict_dict)
local macro_rules | `(tactic| walk_at "fl.ty") => `(tactic| first
  | exact .base (.int _)
  | exact .base (.bl _)
  | exact .base .non
  | exact .base (.str _)
  | exact .base (.tup upd_same)
  | exact .base (.lst upd_same)
  | (apply TyX.base; apply TyOf.tup; assumption)
  | (apply TyX.base; apply TyOf.lst; assumption))
local macro_rules | `(tactic| walk_at "fl.deck") => `(tactic| first
  | assumption
  | (refine DeckAt.same ?_ (Fl.Same.new (by assumption)); walk_at "fl.deck")
  | (refine DeckAt.same ?_ (by assumption); walk_at "fl.deck"))
local macro_rules | `(tactic| walk_at "fl.ex1") => `(tactic| first
  | assumption
  | exact Ex1.refl
  | exact Ex1.upd
  | (refine Ex1.trans ?_ Ex1.upd; walk_at "fl.ex1")
  | (refine Ex1.trans ?_ (Ex1.of (Fl.Same.new (by assumption))); walk_at "fl.ex1")
  | (refine Ex1.trans ?_ (by assumption); walk_at "fl.ex1")
  | (refine Ex1.trans ?_ (Ex1.of (by assumption)); walk_at "fl.ex1"))
local macro_rules | `(tactic| walk_at "fl.pre") => `(tactic| first | assumption | trivial | exact ne_of_num (by assumption))
local macro_rules | `(tactic| walk_at "fl.szq") => `(tactic| first
  | assumption
  | ((with_reducible apply Szq.add); (focus walk_at "fl.szq"); (focus walk_at "fl.szq"))
  | ((with_reducible apply Szq.sub); (focus walk_at "fl.szq"); (focus walk_at "fl.szq"))
  | ((with_reducible apply Szq.mul); (focus walk_at "fl.szq"); (focus walk_at "fl.szq"))
  | ((with_reducible apply Szq.div); (focus walk_at "fl.szq"); (focus walk_at "fl.szq"); (focus walk_at "fl.pre"))
  | exact szq_div (k := 41) (by decide) (by omega) (by decide))
local macro_rules | `(tactic| walk_at "fl.md") => `(tactic| first | assumption | ((with_reducible apply Szq.md); (focus walk_at "fl.szq"); decide))
local macro_rules | `(tactic| walk_at "fl.rat") => `(tactic| first
  | rfl
  | exact Rat.add_comm _ _
  | exact Rat.mul_comm _ _
  | exact Rat.add_assoc _ _ _
  | exact Rat.mul_assoc _ _ _
  | exact Rat.mul_add _ _ _
  | exact Rat.add_sub_cancel
  | exact Rat.mul_div_cancel (ne_of_num (by assumption))
  | exact Rat.div_mul_cancel (ne_of_num (by assumption)))
-- one step of a reading
local macro_rules | `(tactic| walk_at "fl.s") => `(tactic| first
  | (with_reducible refine g_seq ?_)
  | (with_reducible refine g_op ?_)
  | ((with_reducible apply g_var); (focus rfl))
  | (with_reducible refine g_c ?_)
  | (with_reducible refine g_I0 ?_)
  | ((with_reducible apply g_I); (focus walk_at "fl.side"))
  | (with_reducible refine g_U ?_)
  | (with_reducible refine g_un ?_)
  | ((with_reducible apply g_ixL); (focus walk_at "fl.look"); (focus first | assumption | rfl))
  | ((with_reducible apply g_ixT); (focus walk_at "fl.look"); (focus first | assumption | rfl))
  | (with_reducible refine g_cb1 ?_)
  | (with_reducible refine g_cb2 ?_)
  | (with_reducible refine g_int ?_)
  | (with_reducible refine g_intB ?_)
  | (with_reducible refine g_abs ?_)
  | (with_reducible refine g_max ?_)
  | (with_reducible refine g_min ?_)
  | ((with_reducible apply g_lenL); (focus walk_at "fl.look"))
  | ((with_reducible apply g_lenT); (focus walk_at "fl.look"))
  | (with_reducible refine g_gcd ?_)
  | ((with_reducible apply g_isiT); (focus walk_at "fl.ty"); (focus walk_at "fl.kit"))
  | ((with_reducible apply g_listL); (focus walk_at "fl.look"); intro _ _)
  | ((with_reducible refine g_new ?_ ?_); (focus walk_at "fl.side"); intro _ _)
  | ((with_reducible refine g_tup2 ?_))
  | (with_reducible refine g_eqI ?_)
  | (with_reducible refine g_neI ?_)
  | (with_reducible refine g_eqB ?_)
  | (with_reducible refine g_test ?_)
  | (with_reducible refine g_B ?_)
  | (with_reducible refine g_bl ?_)
  | (with_reducible refine g_ex ?_)
  | (with_reducible refine g_not ?_)
  | (with_reducible refine g_and ?_)
  | (with_reducible refine g_or ?_)
  | (with_reducible refine g_andV ?_)
  | (with_reducible refine g_orV ?_)
  | (with_reducible refine g_notV ?_)
  | (with_reducible refine g_next ?_)
  | (with_reducible refine g_ret ?_)
  | (with_reducible refine g_if ?_)
  | (with_reducible refine g_setS ?_)
  | ((with_reducible apply g_setL); (focus first | assumption | exact upd_same); (focus rfl))
  | (with_reducible refine g_set ?_)
  | ((with_reducible apply g_aug); (focus rfl))
  | (with_reducible refine g_ipI ?_)
  | (with_reducible refine g_drop ?_)
  | (with_reducible refine g_call ?_)
  | ((with_reducible refine draw_app ?_ ?_ ?_ ?_); (focus walk_at "fl.deck"); (focus walk_at "fl.side"); (focus walk_at "fl.side"); intro _ _ _ _ _ _)
  | ((with_reducible refine big_app ?_ ?_); (focus walk_at "fl.deck"); intro _ _ _ _ _ _ _ _ _)
  | ((with_reducible apply deck_app); (focus walk_at "fl.look"); intro _ _ _ _ _)
  | ((with_reducible refine fra_app ?_ ?_ ?_ ?_); (focus walk_at "fl.side"); (focus walk_at "fl.side"); (focus walk_at "fl.side"); intro _ _ _ _ _)
  | ((with_reducible apply cmp_app); (focus walk_at "fl.look"); (focus walk_at "fl.look"); (focus assumption); (focus assumption))
  | ((with_reducible apply down2_app); (focus walk_at "fl.look"); (focus assumption); intro _ _ _ _ _ _)
  | ((with_reducible apply near2_app); (focus walk_at "fl.look"); (focus assumption); intro _ _ _ _ _)
  | (with_reducible refine isint_app ?_)
  | (with_reducible refine sameI_app ?_)
  | (with_reducible refine g_callD ?_)
  | ((with_reducible show spRatq _ _ _ _ _); (apply ratq_app); (focus walk_at "fl.side"); (focus walk_at "fl.side"); (focus walk_at "fl.side"); intro _ _ _ _ _)
  | ((with_reducible apply bin_app); (focus walk_at "fl.look"); (focus walk_at "fl.look"); (focus walk_at "fl.md"); (focus walk_at "fl.md"); (focus walk_at "fl.pre"); intro _ _ _ _ _)
  | ((with_reducible apply cq_app); (focus walk_at "fl.look"); (focus walk_at "fl.look"); (focus walk_at "fl.md"); (focus walk_at "fl.md"))
  | ((with_reducible apply nr_app); (focus walk_at "fl.look"); (focus walk_at "fl.md"))
  | ((with_reducible apply ne_app); (focus walk_at "fl.look"); (focus walk_at "fl.look"); (focus walk_at "fl.rat"))
  | (with_reducible refine g_cons ?_)
  | (with_reducible refine g_nil ?_)
  | (with_reducible refine g_tup2 ?_)
  | (with_reducible refine g_tupN ?_)
  | (with_reducible refine g_lstN ?_)
  | (with_reducible refine g_iteT ?_)
  | (with_reducible refine g_iteF ?_)
  | (with_reducible refine g_iteNT ?_)
  | (with_reducible refine g_iteNF ?_)
  | ((with_reducible show ∀ (p : Addr), (_ : Option HO) = none → _); intro _ _))
local macro_rules | `(tactic| walk_at "fl.go") => `(tactic| repeat walk_at "fl.s")
local macro_rules | `(tactic| walk_at "fl.run") => `(tactic| ((repeat walk_at "fl.s"); try (first
  | (refine g_ite (fun _ => ?_) (fun _ => ?_); all_goals walk_at "fl.run")
  | (refine g_iteN (fun _ => ?_) (fun _ => ?_); all_goals walk_at "fl.run"))))

local macro_rules | `(tactic| walk_at "fl.raw") => `(tactic| first
  | assumption
  | exact upd_same
  | ((with_reducible apply raw_new); (focus assumption); walk_at "fl.raw")
  | ((with_reducible apply raw_same); (focus assumption); walk_at "fl.raw")
  | ((with_reducible apply raw_on); (focus assumption); (focus walk_at "fl.nd"); walk_at "fl.raw")
  | ((with_reducible apply raw_frd); (focus assumption); (focus walk_at "fl.nd"); walk_at "fl.raw"))
local macro_rules | `(tactic| walk_at "fl.nd") => `(tactic| first
  | assumption
  | exact Dk.ned2 (by assumption) (by assumption))
local macro_rules | `(tactic| walk_at "fl.frd") => `(tactic| first
  | assumption
  | exact Fl.Fr.refl
  | ((with_reducible apply Fl.Fr.newT); (focus assumption); walk_at "fl.frd")
  | ((with_reducible apply Fl.Fr.ond); (focus assumption); walk_at "fl.frd")
  | ((with_reducible apply Fl.Fr.smT); (focus assumption); walk_at "fl.frd")
  | ((with_reducible apply Fl.Fr.frT); (focus assumption); walk_at "fl.frd"))
local macro_rules | `(tactic| walk_at "fl.lk") => `(tactic| first
  | ((with_reducible apply SqL.of); walk_at "fl.raw")
  | ((with_reducible apply SqT.of); walk_at "fl.raw"))
local macro_rules | `(tactic| walk_at "fl.dq") => `(tactic| first
  | assumption
  | exact Dq.int _
  | exact Dq.bl _
  | exact Dq.non
  | ((with_reducible apply Dq.newH); (focus assumption); walk_at "fl.dq")
  | ((with_reducible apply Dq.sm); (focus assumption); walk_at "fl.dq")
  | ((with_reducible apply Dq.ond); (focus assumption); (focus first | assumption | simp); walk_at "fl.dq")
  | ((with_reducible apply Dq.frd); (focus assumption); (focus first | assumption | simp); walk_at "fl.dq"))
local macro_rules | `(tactic| walk_at "fl.dqa") => `(tactic| first
  | assumption
  | exact DqA.nil
  | ((with_reducible apply DqA.cons); (focus walk_at "fl.dq"); walk_at "fl.dqa")
  | ((with_reducible apply DqA.newH); (focus assumption); walk_at "fl.dqa")
  | ((with_reducible apply DqA.sm); (focus assumption); walk_at "fl.dqa"))
local macro_rules | `(tactic| walk_at "fl.al") => `(tactic| first
  | assumption
  | exact Al.nil
  | ((with_reducible apply Al.newH); (focus assumption); walk_at "fl.al")
  | ((with_reducible apply Al.sm); (focus assumption); walk_at "fl.al")
  | ((with_reducible apply Al.ond); (focus assumption); (focus assumption); walk_at "fl.al")
  | ((with_reducible apply Al.frd); (focus assumption); (focus assumption); walk_at "fl.al"))
local macro_rules | `(tactic| walk_at "fl.sm") => `(tactic| first
  | assumption
  | exact L2.Same.refl _
  | ((with_reducible apply Fl.Same.newT); (focus assumption); walk_at "fl.sm")
  | ((with_reducible apply Fl.Same.sm); (focus assumption); walk_at "fl.sm"))
local macro_rules | `(tactic| walk_at "fl.dk") => `(tactic| first
  | assumption
  | ((with_reducible apply Dk.newH); (focus assumption); walk_at "fl.dk")
  | ((with_reducible apply Dk.sm); (focus assumption); walk_at "fl.dk"))
local macro_rules | `(tactic| walk_at "fl.cz") => `(tactic| ((try simp only [List.length_drop, List.length_take, List.length_append, List.length_cons, List.length_nil, List.length_map, List.length_reverse, List.length_dropLast]); omega))
-- readings with plain lookups first, then the older steps
local macro_rules | `(tactic| walk_at "fl.t") => `(tactic| first
  | ((with_reducible apply g_ixL); (focus walk_at "fl.lk"); (focus first | assumption | exact at0 | rfl))
  | ((with_reducible apply g_ixT); (focus walk_at "fl.lk"); (focus first | assumption | rfl))
  | ((with_reducible apply g_lenL); (focus walk_at "fl.lk"))
  | ((with_reducible apply g_lenT); (focus walk_at "fl.lk"))
  | ((with_reducible apply g_listL); (focus walk_at "fl.lk"); intro _ _)
  | (with_reducible refine g_sl ?_)
  | (with_reducible refine g_part ?_)
  | (with_reducible refine g_nop ?_)
  | (with_reducible refine g_ei ?_)
  | ((with_reducible apply g_slF1); (focus walk_at "fl.lk"); intro _ _)
  | ((with_reducible apply g_slT1); (focus walk_at "fl.lk"); intro _ _)
  | ((with_reducible apply g_slB); (focus walk_at "fl.lk"); intro _ _)
  | ((with_reducible apply g_slE); (focus walk_at "fl.lk"); intro _ _)
  | ((with_reducible apply g_slF); (focus walk_at "fl.lk"); intro _ _)
  | ((with_reducible apply g_slTo); (focus walk_at "fl.lk"); intro _ _)
  | ((with_reducible apply g_sl2); (focus walk_at "fl.lk"); intro _ _)
  | ((with_reducible apply g_cat); (focus walk_at "fl.raw"); (focus walk_at "fl.raw"); (focus walk_at "fl.cz"); intro _ _)
  | ((with_reducible apply dr_app); (focus walk_at "fl.dk"); (focus first | (with_reducible assumption) | omega | walk_at "fl.side"); (focus first | (with_reducible assumption) | omega | walk_at "fl.side"); intro _ _ _ _ _ _)
  | ((with_reducible apply dk_app); (focus assumption); intro _ _ _ _ _)
  | ((with_reducible refine g_sz ?_ ?_); (focus walk_at "fl.cz"))
  | (with_reducible refine g_name ?_)
  | ((with_reducible apply g_minL); (focus walk_at "fl.lk"); (focus assumption))
  | ((with_reducible apply g_maxL); (focus walk_at "fl.lk"); (focus assumption))
  | ((with_reducible apply g_sum); (focus walk_at "fl.lk"))
  | (with_reducible refine g_nn ?_)
  | (with_reducible refine g_tru ?_)
  | ((with_reducible apply g_tru0); (focus walk_at "fl.lk"))
  | ((with_reducible apply g_tru1); (focus walk_at "fl.lk"))
  | (with_reducible refine g_yes ?_)
  | ((with_reducible apply g_gtup); (focus walk_at "fl.lk"); (focus rfl))
  | (with_reducible refine g_gcons ?_)
  | (with_reducible refine g_gnil ?_)
  | (with_reducible refine g_bm ?_)
  | ((with_reducible apply g_tyL); (focus walk_at "fl.lk"))
  | ((with_reducible apply g_app); (focus walk_at "fl.raw"); (focus walk_at "fl.cz"))
  | ((with_reducible apply g_ext); (focus walk_at "fl.raw"); (focus walk_at "fl.raw"); (focus walk_at "fl.cz"))
  | (with_reducible refine g_lc ?_)
  | (with_reducible refine g_for ?_)
  | (with_reducible refine g_rng1 ?_)
  | (with_reducible refine g_rng2 ?_)
  | (with_reducible refine g_il ?_)
  | (with_reducible refine g_zip ?_)
  | ((with_reducible apply g_e1); (focus walk_at "fl.cz"); (focus walk_at "fl.cz"))
  | ((with_reducible apply g_e2); (focus (refine ⟨?_, ?_, ?_, ?_⟩ <;> walk_at "fl.cz")))
  | ((with_reducible apply g_el); (focus walk_at "fl.lk"))
  | ((with_reducible apply g_ez); (focus walk_at "fl.lk"); (focus walk_at "fl.lk"))
  | walk_at "fl.s")
local macro_rules | `(tactic| walk_at "fl.w") => `(tactic| repeat walk_at "fl.t")
local macro_rules | `(tactic| walk_at "fl.wr") => `(tactic| ((repeat walk_at "fl.t"); try (first
  | (refine g_ite (fun _ => ?_) (fun _ => ?_); all_goals walk_at "fl.wr")
  | (refine g_iteN (fun _ => ?_) (fun _ => ?_); all_goals walk_at "fl.wr"))))

local macro_rules | `(tactic| walk_at "fl.t") => `(tactic| first
  | ((with_reducible apply g_slR0); (focus walk_at "fl.lk"); intro _ _)
  | (with_reducible refine g_lrev ?_)
  | ((with_reducible apply g_lrev2); (focus walk_at "fl.lk"); intro _ _)
  | (with_reducible refine g_eqS ?_))
local macro_rules | `(tactic| walk_at "fl.w") => `(tactic| repeat walk_at "fl.t")

section
variable {P : Program} {w : World} {K : PySem.W.Frag} {mg : Str → Option Value} {base : Heap}
theorem ok_law_same (T : Txt K mg) : Has P w K mg base 1 "_law_same" ps_law_same spSm1 := by
  refine has_of T.d_law_same sc_law_same bd_law_same (fun vs H Q E h => ?_) (fun f cdv A outer s H vs Q E hr h => ?_)
  · obtain ⟨S, S', d, x, y, rfl, _⟩ := h
    rfl
  · obtain ⟨S, S', d, x, y, rfl, hf, hx, hy, q⟩ := h
    refine ⟨_, (pss_cons (ps_if (pt_val (pe_callB (clIsi (K := K) rfl) (by rfl) T.z_isinstance (by decide +kernel) (pa_cons (pv 1) (pa_cons (pe_bltn (v := .ty "tuple") (by rfl) T.z_tuple (by decide +kernel) rfl) pa_nil))))
        pss_never
        pss_nil)
      (pss_cons (ps_if (PW.pt (pw_or (pt_val (pe_callB (clIsi (K := K) rfl) (by rfl) T.z_isinstance (by decide +kernel) (pa_cons (pv 1) (pa_cons (pe_bltn (v := .ty "bool") (by rfl) T.z_bool (by decide +kernel) rfl) pa_nil)))) (pw_or1 (pt_val (pe_callB (clIsi (K := K) rfl) (by rfl) T.z_isinstance (by decide +kernel) (pa_cons (pv 0) (pa_cons (pe_bltn (v := .ty "bool") (by rfl) T.z_bool (by decide +kernel) rfl) pa_nil)))))))
        (pss_one (ps_ret (pe_and (pe_callB (clIsi (K := K) rfl) (by rfl) T.z_isinstance (by decide +kernel) (pa_cons (pv 1) (pa_cons (pe_bltn (v := .ty "bool") (by rfl) T.z_bool (by decide +kernel) rfl) pa_nil))) (pe_and (pe_callB (clIsi (K := K) rfl) (by rfl) T.z_isinstance (by decide +kernel) (pa_cons (pv 0) (pa_cons (pe_bltn (v := .ty "bool") (by rfl) T.z_bool (by decide +kernel) rfl) pa_nil))) (pe_one (pe_cmpR op_eq (pv 1) (pv 0) (nomark _)))))))
        pss_nil)
      (pss_cons (ps_if (pt_val (pe_callB (clIsi (K := K) rfl) (by rfl) T.z_isinstance (by decide +kernel) (pa_cons (pv 1) (pa_cons (pe_bltn (v := .ty "int") (by rfl) T.z_int (by decide +kernel) rfl) pa_nil))))
        (pss_one (ps_ret (pe_and (pe_callB (clIsi (K := K) rfl) (by rfl) T.z_isinstance (by decide +kernel) (pa_cons (pv 0) (pa_cons (pe_bltn (v := .ty "int") (by rfl) T.z_int (by decide +kernel) rfl) pa_nil))) (pe_one (pe_cmpR op_eq (pv 0) (pv 1) (nomark _))))))
        pss_nil)
      (pss_cons (ps_if (pt_val (pe_callB (clIsi (K := K) rfl) (by rfl) T.z_isinstance (by decide +kernel) (pa_cons (pv 1) (pa_cons (pe_bltn (v := .ty "str") (by rfl) T.z_str (by decide +kernel) rfl) pa_nil))))
        (pss_one (ps_ret (pe_and (pe_callB (clIsi (K := K) rfl) (by rfl) T.z_isinstance (by decide +kernel) (pa_cons (pv 0) (pa_cons (pe_bltn (v := .ty "str") (by rfl) T.z_str (by decide +kernel) rfl) pa_nil))) (pe_one (pe_cmpR op_eq (pv 0) (pv 1) (nomark _))))))
        pss_nil)
      (pss_one (ps_ret (pe_and (pe_cmpR op_isN (pv 1) pe_non (nomark _)) (pe_one (pe_cmpR op_isN (pv 0) pe_non (nomark _)))))))))), ?_⟩
    cases d with
    | int i =>
      cases hx.intE
      cases hy.intE
      walk_at "fl.wr"
      rw [decide_eq_true rfl]
      exact q
    | bool b =>
      cases hx.blE
      cases hy.blE
      walk_at "fl.wr"
      rw [decide_eq_true rfl]
      exact q
    | none =>
      cases hx.nonE
      cases hy.nonE
      walk_at "fl.w"
      refine g_ite (fun _ => ?_) (fun h => absurd rfl h)
      walk_at "fl.w"
      rw [decide_eq_true rfl]
      exact q
    | str _ => cases hf
    | list _ => cases hf
    | tuple _ => cases hf
    | dict _ => cases hf
def spSmA : Sp := fun vs H Q E => spSm2 vs H Q E ∨ ∃ s : Str, vs = [.str s, .str s] ∧ Q (.bl true) H
theorem ok_law_sameA (T : Txt K mg) : Has P w K mg base 2 "_law_same" ps_law_same spSmA := by
  have h_law_same := ok_law_same (P := P) (w := w) (base := base) T
  refine has_of T.d_law_same sc_law_same bd_law_same (fun vs H Q E h => ?_) (fun f cdv A outer s H vs Q E hr h => ?_)
  · rcases h with ⟨S, S', d, x, y, rfl, _⟩ | ⟨s, rfl, _⟩
    · rfl
    · rfl
  · rcases h with h | ⟨s, rfl, q⟩
    · obtain ⟨S, S', d, x, y, rfl, ⟨es, rfl, hz, hf⟩, hx, hy, q⟩ := h
      obtain ⟨a, xs, rfl, na, rx, hA⟩ := hx.tupE
      obtain ⟨b, ys, rfl, nb, ry, hB⟩ := hy.tupE
      have hlx := hA.len
      have hly := hB.len
      have hle : ((xs.length : Nat) : Int) = (ys.length : Nat) := by omega
      refine ⟨_, (pss_cons (ps_if (pt_val (pe_callB (clIsi (K := K) rfl) (by rfl) T.z_isinstance (by decide +kernel) (pa_cons (pv 1) (pa_cons (pe_bltn (v := .ty "tuple") (by rfl) T.z_tuple (by decide +kernel) rfl) pa_nil))))
        (pss_cons (ps_if (PW.pt (pw_or (pt_not (pt_val (pe_callB (clIsi (K := K) rfl) (by rfl) T.z_isinstance (by decide +kernel) (pa_cons (pv 0) (pa_cons (pe_bltn (v := .ty "tuple") (by rfl) T.z_tuple (by decide +kernel) rfl) pa_nil))))) (pw_or1 (pt_cmpR op_ne (pe_callB (clLen (K := K) rfl) (by rfl) T.z_len (by decide +kernel) (pa_cons (pv 0) pa_nil)) (pe_callB (clLen (K := K) rfl) (by rfl) T.z_len (by decide +kernel) (pa_cons (pv 1) pa_nil)) (nomark _)))))
        (pss_one (ps_ret pe_bl))
        pss_nil)
      (pss_cons (ps_for PassesOwn.never rfl (pi_range1 (by rfl) T.z_range (pa_cons (pe_callB (clLen (K := K) rfl) (by rfl) T.z_len (by decide +kernel) (pa_cons (pv 1) pa_nil)) pa_nil)) (pg_name (i := 2) sc_law_same.nd rfl (.inl rfl))
        (pss_one (ps_if (pt_not (pt_val (pe_h h_law_same (hr.mono (by decide)) (pa_cons (pe_ix (ixT (K := K) rfl) (pv 0) (pv 2) (fun _ _ => rfl)) (pa_cons (pe_ix (ixT (K := K) rfl) (pv 1) (pv 2) (fun _ _ => rfl)) pa_nil)))))
        (pss_one (ps_ret pe_bl))
        pss_nil)))
      (pss_one (ps_ret pe_bl))))
        pss_nil)
      (pss_cons ps_never
      (pss_cons ps_never
      (pss_cons ps_never
      (pss_one ps_never))))), ?_⟩
      walk_at "fl.w"
      refine g_iteN (fun h => absurd hle h) (fun _ => ?_)
      walk_at "fl.w"
      refine forK_r (fun i σ' H' => (∃ u, σ' = [some (.ref a), some (.ref b), u]) ∧ H' = H) ⟨⟨_, rfl⟩, rfl⟩ ?_ ?_
      · intro i σ' H' hi ⟨⟨u, e⟩, e2⟩
        subst e e2
        have hi2 : i < es.length := by omega
        have hxi : xs[i]? = some xs[i] := List.getElem?_eq_getElem (by omega)
        have hyi : ys[i]? = some ys[i] := List.getElem?_eq_getElem (by omega)
        obtain ⟨d1, hd1, dx⟩ := hA.get hxi
        obtain ⟨d2, hd2, dy⟩ := hB.get hyi
        cases hd1.symm.trans hd2
        have ax : atI xs (i : Int) = some xs[i] := atI_nat hxi
        have ay : atI ys (i : Int) = some ys[i] := atI_nat hyi
        have e0 : (0 : Int) + (i : Int) = (i : Int) := Int.zero_add _
        rw [e0]
        walk_at "fl.w"
        refine ⟨S, S', d1, _, _, rfl, hf _ (List.mem_of_getElem? hd1), dx, dy, ?_⟩
        walk_at "fl.w"
        exact ⟨⟨_, rfl⟩, rfl⟩
      · intro σ' H' ⟨⟨u, e⟩, e2⟩
        subst e e2
        walk_at "fl.w"
        exact q
    · refine ⟨_, (pss_cons (ps_if (pt_val (pe_callB (clIsi (K := K) rfl) (by rfl) T.z_isinstance (by decide +kernel) (pa_cons (pv 1) (pa_cons (pe_bltn (v := .ty "tuple") (by rfl) T.z_tuple (by decide +kernel) rfl) pa_nil))))
        pss_never
        pss_nil)
      (pss_cons (ps_if (PW.pt (pw_or (pt_val (pe_callB (clIsi (K := K) rfl) (by rfl) T.z_isinstance (by decide +kernel) (pa_cons (pv 1) (pa_cons (pe_bltn (v := .ty "bool") (by rfl) T.z_bool (by decide +kernel) rfl) pa_nil)))) (pw_or1 (pt_val (pe_callB (clIsi (K := K) rfl) (by rfl) T.z_isinstance (by decide +kernel) (pa_cons (pv 0) (pa_cons (pe_bltn (v := .ty "bool") (by rfl) T.z_bool (by decide +kernel) rfl) pa_nil)))))))
        pss_never
        pss_nil)
      (pss_cons (ps_if (pt_val (pe_callB (clIsi (K := K) rfl) (by rfl) T.z_isinstance (by decide +kernel) (pa_cons (pv 1) (pa_cons (pe_bltn (v := .ty "int") (by rfl) T.z_int (by decide +kernel) rfl) pa_nil))))
        pss_never
        pss_nil)
      (pss_cons (ps_if (pt_val (pe_callB (clIsi (K := K) rfl) (by rfl) T.z_isinstance (by decide +kernel) (pa_cons (pv 1) (pa_cons (pe_bltn (v := .ty "str") (by rfl) T.z_str (by decide +kernel) rfl) pa_nil))))
        (pss_one (ps_ret (pe_and (pe_callB (clIsi (K := K) rfl) (by rfl) T.z_isinstance (by decide +kernel) (pa_cons (pv 0) (pa_cons (pe_bltn (v := .ty "str") (by rfl) T.z_str (by decide +kernel) rfl) pa_nil))) (pe_one (pe_cmpR op_eq (pv 0) (pv 1) (nomark _))))))
        pss_nil)
      (pss_one ps_never))))), ?_⟩
      walk_at "fl.wr"
      all_goals first
        | exact q
        | (rw [decide_eq_true rfl]; exact q)
        | (exfalso; simp at *)
def spSmlA : Sp := fun vs H Q _ => ∃ (S T : List Addr) (ds : List PyData) (x y : V), vs = [x, y] ∧ ds.length ≤ 900 ∧ (∀ d, d ∈ ds → TfD d ∨ ∃ s, d = .str s) ∧ Dq S H x (.list ds) ∧ Dq T H y (.list ds) ∧ Q (.bl true) H
theorem ok_law_same_listA (T : Txt K mg) : Has P w K mg base 3 "_law_same_list" ps_law_same_list spSmlA := by
  have h_law_same := ok_law_sameA (P := P) (w := w) (base := base) T
  refine has_of T.d_law_same_list sc_law_same_list bd_law_same_list (fun vs H Q E h => ?_) (fun f cdv A outer s H vs Q E hr h => ?_)
  · obtain ⟨S, S', d, x, y, rfl, _⟩ := h
    rfl
  · obtain ⟨S, S', es, x, y, rfl, hz, hf, hx, hy, q⟩ := h
    obtain ⟨a, xs, rfl, na, rx, hA⟩ := hx.lstE
    obtain ⟨b, ys, rfl, nb, ry, hB⟩ := hy.lstE
    have hlx := hA.len
    have hly := hB.len
    have hle : ((xs.length : Nat) : Int) = (ys.length : Nat) := by omega
    refine ⟨_, (pss_cons (ps_if (PW.pt (pw_or (pt_not (pt_val (pe_callB (clIsi (K := K) rfl) (by rfl) T.z_isinstance (by decide +kernel) (pa_cons (pv 0) (pa_cons (pe_bltn (v := .ty "list") (by rfl) T.z_list (by decide +kernel) rfl) pa_nil))))) (pw_or1 (pt_cmpR op_ne (pe_callB (clLen (K := K) rfl) (by rfl) T.z_len (by decide +kernel) (pa_cons (pv 0) pa_nil)) (pe_callB (clLen (K := K) rfl) (by rfl) T.z_len (by decide +kernel) (pa_cons (pv 1) pa_nil)) (nomark _)))))
        (pss_one (ps_ret pe_bl))
        pss_nil)
      (pss_cons (ps_for PassesOwn.never rfl (pi_range1 (by rfl) T.z_range (pa_cons (pe_callB (clLen (K := K) rfl) (by rfl) T.z_len (by decide +kernel) (pa_cons (pv 1) pa_nil)) pa_nil)) (pg_name (i := 2) sc_law_same_list.nd rfl (.inl rfl))
        (pss_one (ps_if (pt_not (pt_val (pe_h h_law_same (hr.mono (by decide)) (pa_cons (pe_ix (ixL (K := K) rfl) (pv 0) (pv 2) (fun _ _ => rfl)) (pa_cons (pe_ix (ixL (K := K) rfl) (pv 1) (pv 2) (fun _ _ => rfl)) pa_nil)))))
        (pss_one (ps_ret pe_bl))
        pss_nil)))
      (pss_one (ps_ret pe_bl)))), ?_⟩
    walk_at "fl.w"
    refine g_iteN (fun h => absurd hle h) (fun _ => ?_)
    walk_at "fl.w"
    refine forK_r (fun i σ' H' => (∃ u, σ' = [some (.ref a), some (.ref b), u]) ∧ H' = H) ⟨⟨_, rfl⟩, rfl⟩ ?_ ?_
    · intro i σ' H' hi ⟨⟨u, e⟩, e2⟩
      subst e e2
      have hi2 : i < es.length := by omega
      have hxi : xs[i]? = some xs[i] := List.getElem?_eq_getElem (by omega)
      have hyi : ys[i]? = some ys[i] := List.getElem?_eq_getElem (by omega)
      obtain ⟨d1, hd1, dx⟩ := hA.get hxi
      obtain ⟨d2, hd2, dy⟩ := hB.get hyi
      cases hd1.symm.trans hd2
      have ax : atI xs (i : Int) = some xs[i] := atI_nat hxi
      have ay : atI ys (i : Int) = some ys[i] := atI_nat hyi
      have e0 : (0 : Int) + (i : Int) = (i : Int) := Int.zero_add _
      rw [e0]
      walk_at "fl.w"
      rcases hf _ (List.mem_of_getElem? hd1) with ht | ⟨y, rfl⟩
      · refine .inl ⟨S, S', d1, _, _, rfl, ht, dx, dy, ?_⟩
        walk_at "fl.w"
        exact ⟨⟨_, rfl⟩, rfl⟩
      · generalize xs[i] = xi at *
        generalize ys[i] = yi at *
        cases dx
        cases dy
        refine .inr ⟨y, rfl, ?_⟩
        walk_at "fl.w"
        exact ⟨⟨_, rfl⟩, rfl⟩
    · intro σ' H' ⟨⟨u, e⟩, e2⟩
      subst e e2
      walk_at "fl.w"
      exact q
end
end K60

set_option Elab.async false
set_option linter.all false
set_option maxRecDepth 100000
set_option maxHeartbeats 4000000
set_option exponentiation.threshold 20000
namespace K60
open PySem PySem.Spec PyProof.Rows L2 Fl
-- facts of a place in the heap
local macro_rules | `(tactic| walk_at "fl.ne") => `(tactic| first
  | assumption
  | exact Ne.symm (by assumption)
  | ((with_reducible apply DeckAt.ne'); (focus assumption); walk_at "fl.deck"))
local macro_rules | `(tactic| walk_at "fl.look") => `(tactic| first
  | assumption
  | ((with_reducible show RV _ _ _ _); (with_reducible apply RV.ex1); (focus assumption); (focus walk_at "fl.ne"); walk_at "fl.look")
  | ((with_reducible show RV _ _ _ _); (with_reducible apply RV.same); (focus assumption); walk_at "fl.look")
  | ((with_reducible show RV _ _ _ _); (with_reducible apply RV.same); (focus exact Fl.Same.new (by assumption)); walk_at "fl.look")
  | (with_reducible exact SqL.of upd_same)
  | (with_reducible exact SqT.of upd_same)
  | ((with_reducible apply SqL.of); assumption)
  | ((with_reducible apply SqT.of); assumption)
  | ((with_reducible apply Ex1.l); (focus with_reducible exact Ex1.upd); (focus walk_at "fl.ne"); walk_at "fl.look")
  | ((with_reducible apply Ex1.t); (focus with_reducible exact Ex1.upd); (focus walk_at "fl.ne"); walk_at "fl.look")
  | ((with_reducible apply Same.seq); (focus exact Fl.Same.new (by assumption)); walk_at "fl.look")
  | ((with_reducible apply Fl.Same.t); (focus exact Fl.Same.new (by assumption)); walk_at "fl.look")
  | ((with_reducible apply Ex1.l); (focus assumption); (focus walk_at "fl.ne"); walk_at "fl.look")
  | ((with_reducible apply Ex1.t); (focus assumption); (focus walk_at "fl.ne"); walk_at "fl.look")
  | ((with_reducible apply Same.seq); (focus assumption); walk_at "fl.look")
  | ((with_reducible apply Fl.Same.t); (focus assumption); walk_at "fl.look"))
-- arithmetic that an operation asks
local macro_rules | `(tactic| walk_at "fl.side") => `(tactic| first
  | decide
  | assumption
  | omega
  | (simp only [List.length_cons, List.length_nil]; omega)
  | exact Or.inr (by decide)
  | (refine ⟨?_, ?_, ?_⟩ <;> decide)
  | exact Or.inl (by decide)
  | exact mulW (by first | assumption | omega) (by first | assumption | omega)
  | exact divW (by first | assumption | omega) (by first | assumption | omega)
  | exact divS (by first | assumption | omega) (by first | assumption | omega)
  | exact div62 (by first | assumption | decide | omega) (by first | assumption | decide | omega))
local macro_rules | `(tactic| walk_at "fl.kit") => `(tactic| first | exact kit_int_int | exact kit_int_bool | exact kit_int_tuple | exact kit_int_str | exact kit_int_list | exact kit_int_dict | exact kit_bool_int | exact kit_bool_bool | exact kit_bool_tuple | exact kit_bool_str | exact kit_bool_list | exact kit_bool_dict | exact kit_tuple_int | exact kit_tuple_bool | exact kit_tuple_tuple | exact kit_tuple_str | exact kit_tuple_list | exact kit_tuple_dict | exact kit_str_int | exact kit_str_bool | exact kit_str_tuple | exact kit_str_str | exact kit_str_list | exact kit_str_dict | exact kit_list_int | exact kit_list_bool | exact kit_list_tuple | exact kit_list_str | exact kit_list_list | exact kit_list_dict | exact kit_NoneType_int | exact kit_NoneType_bool | exact kit_NoneType_tuple | exact kit_NoneType_str | exact kit_NoneType_list | exact kit_NoneType_dict | exact kit_dict_int | exact kit_dict_bool | exact kit_dict_tuple | exact kit_dict_str | exact kit_dict_list | exact kit_dict_dict)
local macro_rules | `(tactic| walk_at "fl.ty") => `(tactic| first
  | exact .base (.int _)
  | exact .base (.bl _)
  | exact .base .non
  | exact .base (.str _)
  | exact .base (.tup upd_same)
  | exact .base (.lst upd_same)
  | (apply TyX.base; apply TyOf.tup; assumption)
  | (apply TyX.base; apply TyOf.lst; assumption))
local macro_rules | `(tactic| walk_at "fl.deck") => `(tactic| first
  | assumption
  | (refine DeckAt.same ?_ (Fl.Same.new (by assumption)); walk_at "fl.deck")
  | (refine DeckAt.same ?_ (by assumption); walk_at "fl.deck"))
local macro_rules | `(tactic| walk_at "fl.ex1") => `(tactic| first
  | assumption
  | exact Ex1.refl
  | exact Ex1.upd
  | (refine Ex1.trans ?_ Ex1.upd; walk_at "fl.ex1")
  | (refine Ex1.trans ?_ (Ex1.of (Fl.Same.new (by assumption))); walk_at "fl.ex1")
  | (refine Ex1.trans ?_ (by assumption); walk_at "fl.ex1")
  | (refine Ex1.trans ?_ (Ex1.of (by assumption)); walk_at "fl.ex1"))
local macro_rules | `(tactic| walk_at "fl.pre") => `(tactic| first | assumption | trivial | exact ne_of_num (by assumption))
local macro_rules | `(tactic| walk_at "fl.szq") => `(tactic| first
  | assumption
  | ((with_reducible apply Szq.add); (focus walk_at "fl.szq"); (focus walk_at "fl.szq"))
  | ((with_reducible apply Szq.sub); (focus walk_at "fl.szq"); (focus walk_at "fl.szq"))
  | ((with_reducible apply Szq.mul); (focus walk_at "fl.szq"); (focus walk_at "fl.szq"))
  | ((with_reducible apply Szq.div); (focus walk_at "fl.szq"); (focus walk_at "fl.szq"); (focus walk_at "fl.pre"))
  | exact szq_div (k := 41) (by decide) (by omega) (by decide))
local macro_rules | `(tactic| walk_at "fl.md") => `(tactic| first | assumption | ((with_reducible apply Szq.md); (focus walk_at "fl.szq"); decide))
local macro_rules | `(tactic| walk_at "fl.rat") => `(tactic| first
  | rfl
  | exact Rat.add_comm _ _
  | exact Rat.mul_comm _ _
  | exact Rat.add_assoc _ _ _
  | exact Rat.mul_assoc _ _ _
  | exact Rat.mul_add _ _ _
  | exact Rat.add_sub_cancel
  | exact Rat.mul_div_cancel (ne_of_num (by assumption))
  | exact Rat.div_mul_cancel (ne_of_num (by assumption)))
-- one step of a reading
local macro_rules | `(tactic| walk_at "fl.s") => `(tactic| first
  | (with_reducible refine g_seq ?_)
  | (with_reducible refine g_op ?_)
  | ((with_reducible apply g_var); (focus rfl))
  | (with_reducible refine g_c ?_)
  | (with_reducible refine g_I0 ?_)
  | ((with_reducible apply g_I); (focus walk_at "fl.side"))
  | (with_reducible refine g_U ?_)
  | (with_reducible refine g_un ?_)
  | ((with_reducible apply g_ixL); (focus walk_at "fl.look"); (focus first | assumption | rfl))
  | ((with_reducible apply g_ixT); (focus walk_at "fl.look"); (focus first | assumption | rfl))
  | (with_reducible refine g_cb1 ?_)
  | (with_reducible refine g_cb2 ?_)
  | (with_reducible refine g_int ?_)
  | (with_reducible refine g_intB ?_)
  | (with_reducible refine g_abs ?_)
  | (with_reducible refine g_max ?_)
  | (with_reducible refine g_min ?_)
  | ((with_reducible apply g_lenL); (focus walk_at "fl.look"))
  | ((with_reducible apply g_lenT); (focus walk_at "fl.look"))
  | (with_reducible refine g_gcd ?_)
  | ((with_reducible apply g_isiT); (focus walk_at "fl.ty"); (focus walk_at "fl.kit"))
  | ((with_reducible apply g_listL); (focus walk_at "fl.look"); intro _ _)
  | ((with_reducible refine g_new ?_ ?_); (focus walk_at "fl.side"); intro _ _)
  | ((with_reducible refine g_tup2 ?_))
  | (with_reducible refine g_eqI ?_)
  | (with_reducible refine g_neI ?_)
  | (with_reducible refine g_eqB ?_)
  | (with_reducible refine g_test ?_)
  | (with_reducible refine g_B ?_)
  | (with_reducible refine g_bl ?_)
  | (with_reducible refine g_ex ?_)
  | (with_reducible refine g_not ?_)
  | (with_reducible refine g_and ?_)
  | (with_reducible refine g_or ?_)
  | (with_reducible refine g_andV ?_)
  | (with_reducible refine g_orV ?_)
  | (with_reducible refine g_notV ?_)
  | (with_reducible refine g_next ?_)
  | (with_reducible refine g_ret ?_)
  | (with_reducible refine g_if ?_)
  | (with_reducible refine g_setS ?_)
  | ((with_reducible apply g_setL); (focus first | assumption | exact upd_same); (focus rfl))
  | (with_reducible refine g_set ?_)
  | ((with_reducible apply g_aug); (focus rfl))
  | (with_reducible refine g_ipI ?_)
  | (with_reducible refine g_drop ?_)
  | (with_reducible refine g_call ?_)
  | ((with_reducible refine draw_app ?_ ?_ ?_ ?_); (focus walk_at "fl.deck"); (focus walk_at "fl.side"); (focus walk_at "fl.side"); intro _ _ _ _ _ _)
  | ((with_reducible refine big_app ?_ ?_); (focus walk_at "fl.deck"); intro _ _ _ _ _ _ _ _ _)
  | ((with_reducible apply deck_app); (focus walk_at "fl.look"); intro _ _ _ _ _)
  | ((with_reducible refine fra_app ?_ ?_ ?_ ?_); (focus walk_at "fl.side"); (focus walk_at "fl.side"); (focus walk_at "fl.side"); intro _ _ _ _ _)
  | ((with_reducible apply cmp_app); (focus walk_at "fl.look"); (focus walk_at "fl.look"); (focus assumption); (focus assumption))
  | ((with_reducible apply down2_app); (focus walk_at "fl.look"); (focus assumption); intro _ _ _ _ _ _)
  | ((with_reducible apply near2_app); (focus walk_at "fl.look"); (focus assumption); intro _ _ _ _ _)
  | (with_reducible refine isint_app ?_)
  | (with_reducible refine sameI_app ?_)
  | (with_reducible refine g_callD ?_)
  | ((with_reducible show spRatq _ _ _ _ _); (apply ratq_app); (focus walk_at "fl.side"); (focus walk_at "fl.side"); (focus walk_at "fl.side"); intro _ _ _ _ _)
  | ((with_reducible apply bin_app); (focus walk_at "fl.look"); (focus walk_at "fl.look"); (focus walk_at "fl.md"); (focus walk_at "fl.md"); (focus walk_at "fl.pre"); intro _ _ _ _ _)
  | ((with_reducible apply cq_app); (focus walk_at "fl.look"); (focus walk_at "fl.look"); (focus walk_at "fl.md"); (focus walk_at "fl.md"))
  | ((with_reducible apply nr_app); (focus walk_at "fl.look"); (focus walk_at "fl.md"))
  | ((with_reducible apply ne_app); (focus walk_at "fl.look"); (focus walk_at "fl.look"); (focus walk_at "fl.rat"))
  | (with_reducible refine g_cons ?_)
  | (with_reducible refine g_nil ?_)
  | (with_reducible refine g_tup2 ?_)
  | (with_reducible refine g_tupN ?_)
  | (with_reducible refine g_lstN ?_)
  | (with_reducible refine g_iteT ?_)
  | (with_reducible refine g_iteF ?_)
  | (with_reducible refine g_iteNT ?_)
  | (with_reducible refine g_iteNF ?_)
  | ((with_reducible show ∀ (p : Addr), (_ : Option HO) = none → _); intro _ _))
local macro_rules | `(tactic| walk_at "fl.go") => `(tactic| repeat walk_at "fl.s")
local macro_rules | `(tactic| walk_at "fl.run") => `(tactic| ((repeat walk_at "fl.s"); try (first
  | (refine g_ite (fun _ => ?_) (fun _ => ?_); all_goals walk_at "fl.run")
  | (refine g_iteN (fun _ => ?_) (fun _ => ?_); all_goals walk_at "fl.run"))))

local macro_rules | `(tactic| walk_at "fl.raw") => `(tactic| first
  | assumption
  | exact upd_same
  | ((with_reducible apply raw_new); (focus assumption); walk_at "fl.raw")
  | ((with_reducible apply raw_same); (focus assumption); walk_at "fl.raw")
  | ((with_reducible apply raw_on); (focus assumption); (focus walk_at "fl.nd"); walk_at "fl.raw")
  | ((with_reducible apply raw_frd); (focus assumption); (focus walk_at "fl.nd"); walk_at "fl.raw"))
local macro_rules | `(tactic| walk_at "fl.nd") => `(tactic| first
  | assumption
  | exact Dk.ned2 (by assumption) (by assumption))
local macro_rules | `(tactic| walk_at "fl.frd") => `(tactic| first
  | assumption
  | exact Fl.Fr.refl
  | ((with_reducible apply Fl.Fr.newT); (focus assumption); walk_at "fl.frd")
  | ((with_reducible apply Fl.Fr.ond); (focus assumption); walk_at "fl.frd")
  | ((with_reducible apply Fl.Fr.smT); (focus assumption); walk_at "fl.frd")
  | ((with_reducible apply Fl.Fr.frT); (focus assumption); walk_at "fl.frd"))
local macro_rules | `(tactic| walk_at "fl.lk") => `(tactic| first
  | ((with_reducible apply SqL.of); walk_at "fl.raw")
  | ((with_reducible apply SqT.of); walk_at "fl.raw"))
local macro_rules | `(tactic| walk_at "fl.dq") => `(tactic| first
  | assumption
  | exact Dq.int _
  | exact Dq.bl _
  | exact Dq.non
  | ((with_reducible apply Dq.newH); (focus assumption); walk_at "fl.dq")
  | ((with_reducible apply Dq.sm); (focus assumption); walk_at "fl.dq")
  | ((with_reducible apply Dq.ond); (focus assumption); (focus first | assumption | simp); walk_at "fl.dq")
  | ((with_reducible apply Dq.frd); (focus assumption); (focus first | assumption | simp); walk_at "fl.dq"))
local macro_rules | `(tactic| walk_at "fl.dqa") => `(tactic| first
  | assumption
  | exact DqA.nil
  | ((with_reducible apply DqA.cons); (focus walk_at "fl.dq"); walk_at "fl.dqa")
  | ((with_reducible apply DqA.newH); (focus assumption); walk_at "fl.dqa")
  | ((with_reducible apply DqA.sm); (focus assumption); walk_at "fl.dqa"))
local macro_rules | `(tactic| walk_at "fl.al") => `(tactic| first
  | assumption
  | exact Al.nil
  | ((with_reducible apply Al.newH); (focus assumption); walk_at "fl.al")
  | ((with_reducible apply Al.sm); (focus assumption); walk_at "fl.al")
  | ((with_reducible apply Al.ond); (focus assumption); (focus assumption); walk_at "fl.al")
  | ((with_reducible apply Al.frd); (focus assumption); (focus assumption); walk_at "fl.al"))
local macro_rules | `(tactic| walk_at "fl.sm") => `(tactic| first
  | assumption
  | exact L2.Same.refl _
  | ((with_reducible apply Fl.Same.newT); (focus assumption); walk_at "fl.sm")
  | ((with_reducible apply Fl.Same.sm); (focus assumption); walk_at "fl.sm"))
local macro_rules | `(tactic| walk_at "fl.dk") => `(tactic| first
  | assumption
  | ((with_reducible apply Dk.newH); (focus assumption); walk_at "fl.dk")
  | ((with_reducible apply Dk.sm); (focus assumption); walk_at "fl.dk"))
local macro_rules | `(tactic| walk_at "fl.cz") => `(tactic| ((try simp only [List.length_drop, List.length_take, List.length_append, List.length_cons, List.length_nil, List.length_map, List.length_reverse, List.length_dropLast]); omega))
-- readings with plain lookups first, then the older steps
local macro_rules | `(tactic| walk_at "fl.t") => `(tactic| first
  | ((with_reducible apply g_ixL); (focus walk_at "fl.lk"); (focus first | assumption | exact at0 | rfl))
  | ((with_reducible apply g_ixT); (focus walk_at "fl.lk"); (focus first | assumption | rfl))
  | ((with_reducible apply g_lenL); (focus walk_at "fl.lk"))
  | ((with_reducible apply g_lenT); (focus walk_at "fl.lk"))
  | ((with_reducible apply g_listL); (focus walk_at "fl.lk"); intro _ _)
  | (with_reducible refine g_sl ?_)
  | (with_reducible refine g_part ?_)
  | (with_reducible refine g_nop ?_)
  | (with_reducible refine g_ei ?_)
  | ((with_reducible apply g_slF1); (focus walk_at "fl.lk"); intro _ _)
  | ((with_reducible apply g_slT1); (focus walk_at "fl.lk"); intro _ _)
  | ((with_reducible apply g_slB); (focus walk_at "fl.lk"); intro _ _)
  | ((with_reducible apply g_slE); (focus walk_at "fl.lk"); intro _ _)
  | ((with_reducible apply g_slF); (focus walk_at "fl.lk"); intro _ _)
  | ((with_reducible apply g_slTo); (focus walk_at "fl.lk"); intro _ _)
  | ((with_reducible apply g_sl2); (focus walk_at "fl.lk"); intro _ _)
  | ((with_reducible apply g_cat); (focus walk_at "fl.raw"); (focus walk_at "fl.raw"); (focus walk_at "fl.cz"); intro _ _)
  | ((with_reducible apply dr_app); (focus walk_at "fl.dk"); (focus first | (with_reducible assumption) | omega | walk_at "fl.side"); (focus first | (with_reducible assumption) | omega | walk_at "fl.side"); intro _ _ _ _ _ _)
  | ((with_reducible apply dk_app); (focus assumption); intro _ _ _ _ _)
  | ((with_reducible refine g_sz ?_ ?_); (focus walk_at "fl.cz"))
  | (with_reducible refine g_name ?_)
  | ((with_reducible apply g_minL); (focus walk_at "fl.lk"); (focus assumption))
  | ((with_reducible apply g_maxL); (focus walk_at "fl.lk"); (focus assumption))
  | ((with_reducible apply g_sum); (focus walk_at "fl.lk"))
  | (with_reducible refine g_nn ?_)
  | (with_reducible refine g_tru ?_)
  | ((with_reducible apply g_tru0); (focus walk_at "fl.lk"))
  | ((with_reducible apply g_tru1); (focus walk_at "fl.lk"))
  | (with_reducible refine g_yes ?_)
  | ((with_reducible apply g_gtup); (focus walk_at "fl.lk"); (focus rfl))
  | (with_reducible refine g_gcons ?_)
  | (with_reducible refine g_gnil ?_)
  | (with_reducible refine g_bm ?_)
  | ((with_reducible apply g_tyL); (focus walk_at "fl.lk"))
  | ((with_reducible apply g_app); (focus walk_at "fl.raw"); (focus walk_at "fl.cz"))
  | ((with_reducible apply g_ext); (focus walk_at "fl.raw"); (focus walk_at "fl.raw"); (focus walk_at "fl.cz"))
  | (with_reducible refine g_lc ?_)
  | (with_reducible refine g_for ?_)
  | (with_reducible refine g_rng1 ?_)
  | (with_reducible refine g_rng2 ?_)
  | (with_reducible refine g_il ?_)
  | (with_reducible refine g_zip ?_)
  | ((with_reducible apply g_e1); (focus walk_at "fl.cz"); (focus walk_at "fl.cz"))
  | ((with_reducible apply g_e2); (focus (refine ⟨?_, ?_, ?_, ?_⟩ <;> walk_at "fl.cz")))
  | ((with_reducible apply g_el); (focus walk_at "fl.lk"))
  | ((with_reducible apply g_ez); (focus walk_at "fl.lk"); (focus walk_at "fl.lk"))
  | walk_at "fl.s")
local macro_rules | `(tactic| walk_at "fl.w") => `(tactic| repeat walk_at "fl.t")
local macro_rules | `(tactic| walk_at "fl.wr") => `(tactic| ((repeat walk_at "fl.t"); try (first
  | (refine g_ite (fun _ => ?_) (fun _ => ?_); all_goals walk_at "fl.wr")
  | (refine g_iteN (fun _ => ?_) (fun _ => ?_); all_goals walk_at "fl.wr"))))

local macro_rules | `(tactic| walk_at "fl.t") => `(tactic| first
  | ((with_reducible apply g_slR0); (focus walk_at "fl.lk"); intro _ _)
  | (with_reducible refine g_lrev ?_)
  | ((with_reducible apply g_lrev2); (focus walk_at "fl.lk"); intro _ _)
  | (with_reducible refine g_eqS ?_))
local macro_rules | `(tactic| walk_at "fl.w") => `(tactic| repeat walk_at "fl.t")

section
variable {P : Program} {w : World} {K : PySem.W.Frag} {mg : Str → Option Value} {base : Heap}
theorem _root_.Fl.Dk.nt {d s : Addr} {ns : List Int} {H : Hp} (h : Dk d s ns H) (xs : List V) : H d ≠ some (.tup xs) := by
  obtain ⟨_, _, _, _, _, e, _⟩ := h
  rw [e]
  nofun
theorem _root_.Fl.PL.onk {d s a : Addr} {ns : List Int} {H H' : Hp} {L : List (Addr × List Int)} (h : PL H a L) (k : Dk d s ns H) (e : On d H H') (n : a ≠ d) : PL H' a L := h.fr e.fr (fun b m xs => by rw [List.mem_singleton.mp m]; exact k.nt xs) (by simpa using n)
theorem frUpdN {S : List Addr} {H H' : Hp} {D : Addr} {o : HO} (hD : H D = none) (h : Fl.Fr S H H') : Fl.Fr S H (upd H' D o) := fun b u n e => by
  rw [upd_ne (fun k => by rw [k, hD] at e; cases e)]
  exact h b u n e
/-- pixels near each other, in order, each once -/
structure Px (L : List (Addr × List Int)) : Prop where
  nd : (L.map (·.2)).Nodup
  so : L.Pairwise fun q r => Sx.leP q.2 r.2
  le : L.length ≤ 12
  bd : ∀ p, p ∈ L → -20 ≤ (kP p.2).1 ∧ (kP p.2).1 ≤ 25 ∧ -20 ≤ (kP p.2).2 ∧ (kP p.2).2 ≤ 25
def spPx : Sp := fun vs H Q _ => ∃ (d s : Addr) (ns : List Int), vs = [.ref d] ∧ Dk d s ns H ∧ ∀ c L H', Fl.Fr [d] H H' → Dk d s ns H' → PL H' c L → c ≠ d → Px L → Q (.ref c) H'
theorem ok_law_pixels (T : Txt K mg) : Has P w K mg base 2 "_law_pixels" ps_law_pixels spPx := by
  have h_law_draw := ok_law_draw (P := P) (w := w) (base := base) T
  refine has_of T.d_law_pixels sc_law_pixels bd_law_pixels (fun vs H Q E h => ?_) (fun f cdv A outer s H vs Q E hr h => ?_)
  · obtain ⟨d, s, ns, rfl, _⟩ := h
    rfl
  · obtain ⟨d, s, ns, rfl, k0, q⟩ := h
    refine ⟨_, (pss_cons (ps_set (i := 1) sc_law_pixels.nd rfl (.inl rfl) (pe_lst pa_nil))
      (pss_cons (ps_set (i := 2) sc_law_pixels.nd rfl (.inl rfl) (pe_op op_sub (pe_h h_law_draw (hr.mono (by decide)) (pa_cons (pv 0) (pa_cons pe_int pa_nil))) pe_int))
      (pss_cons (ps_set (i := 3) sc_law_pixels.nd rfl (.inl rfl) (pe_op op_sub (pe_h h_law_draw (hr.mono (by decide)) (pa_cons (pv 0) (pa_cons pe_int pa_nil))) pe_int))
      (pss_cons (ps_for PassesOwn.never rfl (pi_range1 (by rfl) T.z_range (pa_cons (pe_h h_law_draw (hr.mono (by decide)) (pa_cons (pv 0) (pa_cons pe_int pa_nil))) pa_nil)) (pg_name (i := 4) sc_law_pixels.nd rfl (.inl rfl))
        (pss_cons (ps_set (i := 5) sc_law_pixels.nd rfl (.inl rfl) (pe_tup (pa_cons (pe_op op_add (pv 2) (pe_h h_law_draw (hr.mono (by decide)) (pa_cons (pv 0) (pa_cons pe_int pa_nil)))) (pa_cons (pe_op op_add (pv 3) (pe_h h_law_draw (hr.mono (by decide)) (pa_cons (pv 0) (pa_cons pe_int pa_nil)))) pa_nil))))
      (pss_one (ps_if (pt_cmpR (opNotInD (K := K) rfl (hu65 hr)) (pv 5) (pv 1) (by rfl))
        (pss_one (ps_expr (pe_bm PySem.F.plainAttrs_list PySem.F.slot_list_append PySem.F.type_list_append mt_append (pv 1) (pa_cons (pv 5) pa_nil))))
        pss_nil))))
      (pss_one (ps_ret (pe_callB (clSort2 (K := K) rfl hr.units) (by rfl) T.z_sorted (by decide +kernel) (pa_cons (pv 1) pa_nil)))))))), ?_⟩
    walk_at "fl.w"
    rename_i fa hfa vx Hx x0 x1 kx ox vy Hy y0 y1 ky oy vn Hn n0 n1 kn on
    have nfd : fa ≠ d := k0.ned hfa
    have k0' : Dk d s ns (upd H fa (.lst [])) := k0.put nfd (k0.nes hfa)
    have hL0 : PL (upd H fa (.lst [])) fa [] := ⟨⟨fun p m => (by cases m), fun p m => (by cases m)⟩, upd_same⟩
    have hLn := ((hL0.onk k0' ox nfd).onk kx oy nfd).onk ky on nfd
    have fn : Fl.Fr [d] H Hn := (((frUpdN hfa Fl.Fr.refl).trans ox.fr).trans oy.fr).trans on.fr
    refine forK_r (fun i σ' H' => (∃ u4 u5, σ' = [some (.ref d), some (.ref fa), some (.int (vx - 20)), some (.int (vy - 20)), u4, u5]) ∧ Dk d s ns H' ∧ Fl.Fr [d] H H' ∧ ∃ L, PL H' fa L ∧ (L.map (·.2)).Nodup ∧ L.length ≤ i ∧ ∀ p, p ∈ L → -20 ≤ (kP p.2).1 ∧ (kP p.2).1 ≤ 25 ∧ -20 ≤ (kP p.2).2 ∧ (kP p.2).2 ≤ 25) ⟨⟨_, _, rfl⟩, kn, fn, [], hLn, List.nodup_nil, Nat.le_refl _, fun p m => (by cases m)⟩ ?_ ?_
    · intro i σ' H' hi ⟨⟨u4, u5, e⟩, kd, fr, L, hL, nd, hl, hb⟩
      subst e
      have hi13 : i < 13 := by omega
      walk_at "fl.w"
      rename_i va Ha a0 a1 ka oa vb Hb b0 b1 kb ob p hp
      have hL5 := ((hL.onk kd oa nfd).onk ka ob nfd).newH (o := .tup [.int (vx - 20 + va), .int (vy - 20 + vb)]) hp
      have hr5 := hL5.ls
      have k5 : Dk d s ns (upd Hb p (.tup [.int (vx - 20 + va), .int (vy - 20 + vb)])) := kb.put (kb.ned hp) (kb.nes hp)
      have fr5 : Fl.Fr [d] H (upd Hb p (.tup [.int (vx - 20 + va), .int (vy - 20 + vb)])) := ((fr.trans oa.fr).trans ob.fr).trans (Fr.new hp)
      refine g_notInP (k := [vx - 20 + va, vy - 20 + vb]) hL5 upd_same ⟨_, _, rfl⟩ ?_
      walk_at "fl.w"
      refine g_iteN (fun hn => ?_) (fun hn => ?_)
      · walk_at "fl.w"
        refine ⟨⟨_, _, rfl⟩, ?_, frUpdN hfa fr5, L ++ [(p, [vx - 20 + va, vy - 20 + vb])], hL5.snoc upd_same, nd_snoc nd hn, by rw [List.length_append, List.length_singleton]; omega, fun r m => ?_⟩
        · exact k5.put nfd (k0.nes hfa)
        · rcases List.mem_append.mp m with m | m
          · exact hb r m
          · rw [List.mem_singleton.mp m]
            show -20 ≤ vx - 20 + va ∧ vx - 20 + va ≤ 25 ∧ -20 ≤ vy - 20 + vb ∧ vy - 20 + vb ≤ 25
            omega
      · walk_at "fl.w"
        exact ⟨⟨_, _, rfl⟩, k5, fr5, L, hL5, nd, by omega, hb⟩
    · intro σ' H' ⟨⟨u4, u5, e⟩, kd, fr, L, hL, nd, hl, hb⟩
      subst e
      walk_at "fl.w"
      refine g_sort2 hL (by omega) (fun L1 f1 pm so hf1 hL1 => ?_)
      exact q f1 L1 _ (fr.trans (Fr.new hf1)) (kd.put (kd.ned hf1) (kd.nes hf1)) hL1 (kd.ned hf1) ⟨(pm.map (·.2)).nodup_iff.mpr nd, so, by rw [pm.length_eq]; omega, fun p m => hb p (pm.mem_iff.mp m)⟩
end
end K60

set_option Elab.async false
set_option linter.all false
set_option maxRecDepth 100000
set_option maxHeartbeats 4000000
set_option exponentiation.threshold 20000
namespace K60
open PySem PySem.Spec PyProof.Rows L2 Fl
-- facts of a place in the heap
local macro_rules | `(tactic| walk_at "fl.ne") => `(tactic| first
  | assumption
  | exact Ne.symm (by assumption)
  | ((with_reducible apply DeckAt.ne'); (focus assumption); walk_at "fl.deck"))
local macro_rules | `(tactic| walk_at "fl.look") => `(tactic| first
  | assumption
  | ((with_reducible show RV _ _ _ _); (with_reducible apply RV.ex1); (focus assumption); (focus walk_at "fl.ne"); walk_at "fl.look")
  | ((with_reducible show RV _ _ _ _); (with_reducible apply RV.same); (focus assumption); walk_at "fl.look")
  | ((with_reducible show RV _ _ _ _); (with_reducible apply RV.same); (focus exact Fl.Same.new (by assumption)); walk_at "fl.look")
  | (with_reducible exact SqL.of upd_same)
  | (with_reducible exact SqT.of upd_same)
  | ((with_reducible apply SqL.of); assumption)
  | ((with_reducible apply SqT.of); assumption)
  | ((with_reducible apply Ex1.l); (focus with_reducible exact Ex1.upd); (focus walk_at "fl.ne"); walk_at "fl.look")
  | ((with_reducible apply Ex1.t); (focus with_reducible exact Ex1.upd); (focus walk_at "fl.ne"); walk_at "fl.look")
  | ((with_reducible apply Same.seq); (focus exact Fl.Same.new (by assumption)); walk_at "fl.look")
  | ((with_reducible apply Fl.Same.t); (focus exact Fl.Same.new (by assumption)); walk_at "fl.look")
  | ((with_reducible apply Ex1.l); (focus assumption); (focus walk_at "fl.ne"); walk_at "fl.look")
  | ((with_reducible apply Ex1.t); (focus assumption); (focus walk_at "fl.ne"); walk_at "fl.look")
  | ((with_reducible apply Same.seq); (focus assumption); walk_at "fl.look")
  | ((with_reducible apply Fl.Same.t); (focus assumption); walk_at "fl.look"))
-- arithmetic that an operation asks
local macro_rules | `(tactic| walk_at "fl.side") => `(tactic| first
  | decide
  | assumption
  | omega
  | (simp only [List.length_cons, List.length_nil]; omega)
  | exact Or.inr (by decide)
  | (refine ⟨?_, ?_, ?_⟩ <;> decide)
  | exact Or.inl (by decide)
  | exact mulW (by first | assumption | omega) (by first | assumption | omega)
  | exact divW (by first | assumption | omega) (by first | assumption | omega)
  | exact divS (by first | assumption | omega) (by first | assumption | omega)
  | exact div62 (by first | assumption | decide | omega) (by first | assumption | decide | omega))
local macro_rules | `(tactic| walk_at "fl.kit") => `(tactic| first | exact kit_int_int | exact kit_int_bool | exact kit_int_tuple | exact kit_int_str | exact kit_int_list | exact kit_int_dict | exact kit_bool_int | exact kit_bool_bool | exact kit_bool_tuple | exact kit_bool_str | exact kit_bool_list | exact kit_bool_dict | exact kit_tuple_int | exact kit_tuple_bool | exact kit_tuple_tuple | exact kit_tuple_str | exact kit_tuple_list | exact kit_tuple_dict | exact kit_str_int | exact kit_str_bool | exact kit_str_tuple | exact kit_str_str | exact kit_str_list | exact kit_str_dict | exact kit_list_int | exact kit_list_bool | exact kit_list_tuple | exact kit_list_str | exact kit_list_list | exact kit_list_dict | exact kit_NoneType_int | exact kit_NoneType_bool | exact kit_NoneType_tuple | exact kit_NoneType_str | exact kit_NoneType_list | exact kit_NoneType_dict | exact kit_dict_int | exact kit_dict_bool | exact kit_dict_tuple | exact kit_dict_str | exact kit_dict_list | exact kit_dict_dict)
local macro_rules | `(tactic| walk_at "fl.ty") => `(tactic| first
  | exact .base (.int _)
  | exact .base (.bl _)
  | exact .base .non
  | exact .base (.str _)
  | exact .base (.tup upd_same)
  | exact .base (.lst upd_same)
  | (apply TyX.base; apply TyOf.tup; assumption)
  | (apply TyX.base; apply TyOf.lst; assumption))
local macro_rules | `(tactic| walk_at "fl.deck") => `(tactic| first
  | assumption
  | (refine DeckAt.same ?_ (Fl.Same.new (by assumption)); walk_at "fl.deck")
  | (refine DeckAt.same ?_ (by assumption); walk_at "fl.deck"))
local macro_rules | `(tactic| walk_at "fl.ex1") => `(tactic| first
  | assumption
  | exact Ex1.refl
  | exact Ex1.upd
  | (refine Ex1.trans ?_ Ex1.upd; walk_at "fl.ex1")
  | (refine Ex1.trans ?_ (Ex1.of (Fl.Same.new (by assumption))); walk_at "fl.ex1")
  | (refine Ex1.trans ?_ (by assumption); walk_at "fl.ex1")
  | (refine Ex1.trans ?_ (Ex1.of (by assumption)); walk_at "fl.ex1"))
local macro_rules | `(tactic| walk_at "fl.pre") => `(tactic| first | assumption | trivial | exact ne_of_num (by assumption))
local macro_rules | `(tactic| walk_at "fl.szq") => `(tactic| first
  | assumption
  | ((with_reducible apply Szq.add); (focus walk_at "fl.szq"); (focus walk_at "fl.szq"))
  | ((with_reducible apply Szq.sub); (focus walk_at "fl.szq"); (focus walk_at "fl.szq"))
  | ((with_reducible apply Szq.mul); (focus walk_at "fl.szq"); (focus walk_at "fl.szq"))
  | ((with_reducible apply Szq.div); (focus walk_at "fl.szq"); (focus walk_at "fl.szq"); (focus walk_at "fl.pre"))
  | exact szq_div (k := 41) (by decide) (by omega) (by decide))
local macro_rules | `(tactic| walk_at "fl.md") => `(tactic| first | assumption | ((with_reducible apply Szq.md); (focus walk_at "fl.szq"); decide))
local macro_rules | `(tactic| walk_at "fl.rat") => `(tactic| first
  | rfl
  | exact Rat.add_comm _ _
  | exact Rat.mul_comm _ _
  | exact Rat.add_assoc _ _ _
  | exact Rat.mul_assoc _ _ _
  | exact Rat.mul_add _ _ _
  | exact Rat.add_sub_cancel
  | exact Rat.mul_div_cancel (ne_of_num (by assumption))
  | exact Rat.div_mul_cancel (ne_of_num (by assumption)))
-- one step of a reading
local macro_rules | `(tactic| walk_at "fl.s") => `(tactic| first
  | (with_reducible refine g_seq ?_)
  | (with_reducible refine g_op ?_)
  | ((with_reducible apply g_var); (focus rfl))
  | (with_reducible refine g_c ?_)
  | (with_reducible refine g_I0 ?_)
  | ((with_reducible apply g_I); (focus walk_at "fl.side"))
  | (with_reducible refine g_U ?_)
  | (with_reducible refine g_un ?_)
  | ((with_reducible apply g_ixL); (focus walk_at "fl.look"); (focus first | assumption | rfl))
  | ((with_reducible apply g_ixT); (focus walk_at "fl.look"); (focus first | assumption | rfl))
  | (with_reducible refine g_cb1 ?_)
  | (with_reducible refine g_cb2 ?_)
  | (with_reducible refine g_int ?_)
  | (with_reducible refine g_intB ?_)
  | (with_reducible refine g_abs ?_)
  | (with_reducible refine g_max ?_)
  | (with_reducible refine g_min ?_)
  | ((with_reducible apply g_lenL); (focus walk_at "fl.look"))
  | ((with_reducible apply g_lenT); (focus walk_at "fl.look"))
  | (with_reducible refine g_gcd ?_)
  | ((with_reducible apply g_isiT); (focus walk_at "fl.ty"); (focus walk_at "fl.kit"))
  | ((with_reducible apply g_listL); (focus walk_at "fl.look"); intro _ _)
  | ((with_reducible refine g_new ?_ ?_); (focus walk_at "fl.side"); intro _ _)
  | ((with_reducible refine g_tup2 ?_))
  | (with_reducible refine g_eqI ?_)
  | (with_reducible refine g_neI ?_)
  | (with_reducible refine g_eqB ?_)
  | (with_reducible refine g_test ?_)
  | (with_reducible refine g_B ?_)
  | (with_reducible refine g_bl ?_)
  | (with_reducible refine g_ex ?_)
  | (with_reducible refine g_not ?_)
  | (with_reducible refine g_and ?_)
  | (with_reducible refine g_or ?_)
  | (with_reducible refine g_andV ?_)
  | (with_reducible refine g_orV ?_)
  | (with_reducible refine g_notV ?_)
  | (with_reducible refine g_next ?_)
  | (with_reducible refine g_ret ?_)
  | (with_reducible refine g_if ?_)
  | (with_reducible refine g_setS ?_)
  | ((with_reducible apply g_setL); (focus first | assumption | exact upd_same); (focus rfl))
  | (with_reducible refine g_set ?_)
  | ((with_reducible apply g_aug); (focus rfl))
  | (with_reducible refine g_ipI ?_)
  | (with_reducible refine g_drop ?_)
  | (with_reducible refine g_call ?_)
  | ((with_reducible refine draw_app ?_ ?_ ?_ ?_); (focus walk_at "fl.deck"); (focus walk_at "fl.side"); (focus walk_at "fl.side"); intro _ _ _ _ _ _)
  | ((with_reducible refine big_app ?_ ?_); (focus walk_at "fl.deck"); intro _ _ _ _ _ _ _ _ _)
  | ((with_reducible apply deck_app); (focus walk_at "fl.look"); intro _ _ _ _ _)
  | ((with_reducible refine fra_app ?_ ?_ ?_ ?_); (focus walk_at "fl.side"); (focus walk_at "fl.side"); (focus walk_at "fl.side"); intro _ _ _ _ _)
  | ((with_reducible apply cmp_app); (focus walk_at "fl.look"); (focus walk_at "fl.look"); (focus assumption); (focus assumption))
  | ((with_reducible apply down2_app); (focus walk_at "fl.look"); (focus assumption); intro _ _ _ _ _ _)
  | ((with_reducible apply near2_app); (focus walk_at "fl.look"); (focus assumption); intro _ _ _ _ _)
  | (with_reducible refine isint_app ?_)
  | (with_reducible refine sameI_app ?_)
  | (with_reducible refine g_callD ?_)
  | ((with_reducible show spRatq _ _ _ _ _); (apply ratq_app); (focus walk_at "fl.side"); (focus walk_at "fl.side"); (focus walk_at "fl.side"); intro _ _ _ _ _)
  | ((with_reducible apply bin_app); (focus walk_at "fl.look"); (focus walk_at "fl.look"); (focus walk_at "fl.md"); (focus walk_at "fl.md"); (focus walk_at "fl.pre"); intro _ _ _ _ _)
  | ((with_reducible apply cq_app); (focus walk_at "fl.look"); (focus walk_at "fl.look"); (focus walk_at "fl.md"); (focus walk_at "fl.md"))
  | ((with_reducible apply nr_app); (focus walk_at "fl.look"); (focus walk_at "fl.md"))
  | ((with_reducible apply ne_app); (focus walk_at "fl.look"); (focus walk_at "fl.look"); (focus walk_at "fl.rat"))
  | (with_reducible refine g_cons ?_)
  | (with_reducible refine g_nil ?_)
  | (with_reducible refine g_tup2 ?_)
  | (with_reducible refine g_tupN ?_)
  | (with_reducible refine g_lstN ?_)
  | (with_reducible refine g_iteT ?_)
  | (with_reducible refine g_iteF ?_)
  | (with_reducible refine g_iteNT ?_)
  | (with_reducible refine g_iteNF ?_)
  | ((with_reducible show ∀ (p : Addr), (_ : Option HO) = none → _); intro _ _))
local macro_rules | `(tactic| walk_at "fl.go") => `(tactic| repeat walk_at "fl.s")
local macro_rules | `(tactic| walk_at "fl.run") => `(tactic| ((repeat walk_at "fl.s"); try (first
  | (refine g_ite (fun _ => ?_) (fun _ => ?_); all_goals walk_at "fl.run")
  | (refine g_iteN (fun _ => ?_) (fun _ => ?_); all_goals walk_at "fl.run"))))

local macro_rules | `(tactic| walk_at "fl.raw") => `(tactic| first
  | assumption
  | exact upd_same
  | ((with_reducible apply raw_new); (focus assumption); walk_at "fl.raw")
  | ((with_reducible apply raw_same); (focus assumption); walk_at "fl.raw")
  | ((with_reducible apply raw_on); (focus assumption); (focus walk_at "fl.nd"); walk_at "fl.raw")
  | ((with_reducible apply raw_frd); (focus assumption); (focus walk_at "fl.nd"); walk_at "fl.raw"))
local macro_rules | `(tactic| walk_at "fl.nd") => `(tactic| first
  | assumption
  | exact Dk.ned2 (by assumption) (by assumption))
local macro_rules | `(tactic| walk_at "fl.frd") => `(tactic| first
  | assumption
  | exact Fl.Fr.refl
  | ((with_reducible apply Fl.Fr.newT); (focus assumption); walk_at "fl.frd")
  | ((with_reducible apply Fl.Fr.ond); (focus assumption); walk_at "fl.frd")
  | ((with_reducible apply Fl.Fr.smT); (focus assumption); walk_at "fl.frd")
  | ((with_reducible apply Fl.Fr.frT); (focus assumption); walk_at "fl.frd"))
local macro_rules | `(tactic| walk_at "fl.lk") => `(tactic| first
  | ((with_reducible apply SqL.of); walk_at "fl.raw")
  | ((with_reducible apply SqT.of); walk_at "fl.raw"))
local macro_rules | `(tactic| walk_at "fl.dq") => `(tactic| first
  | assumption
  | exact Dq.int _
  | exact Dq.bl _
  | exact Dq.non
  | ((with_reducible apply Dq.newH); (focus assumption); walk_at "fl.dq")
  | ((with_reducible apply Dq.sm); (focus assumption); walk_at "fl.dq")
  | ((with_reducible apply Dq.ond); (focus assumption); (focus first | assumption | simp); walk_at "fl.dq")
  | ((with_reducible apply Dq.frd); (focus assumption); (focus first | assumption | simp); walk_at "fl.dq"))
local macro_rules | `(tactic| walk_at "fl.dqa") => `(tactic| first
  | assumption
  | exact DqA.nil
  | ((with_reducible apply DqA.cons); (focus walk_at "fl.dq"); walk_at "fl.dqa")
  | ((with_reducible apply DqA.newH); (focus assumption); walk_at "fl.dqa")
  | ((with_reducible apply DqA.sm); (focus assumption); walk_at "fl.dqa"))
local macro_rules | `(tactic| walk_at "fl.al") => `(tactic| first
  | assumption
  | exact Al.nil
  | ((with_reducible apply Al.newH); (focus assumption); walk_at "fl.al")
  | ((with_reducible apply Al.sm); (focus assumption); walk_at "fl.al")
  | ((with_reducible apply Al.ond); (focus assumption); (focus assumption); walk_at "fl.al")
  | ((with_reducible apply Al.frd); (focus assumption); (focus assumption); walk_at "fl.al"))
local macro_rules | `(tactic| walk_at "fl.sm") => `(tactic| first
  | assumption
  | exact L2.Same.refl _
  | ((with_reducible apply Fl.Same.newT); (focus assumption); walk_at "fl.sm")
  | ((with_reducible apply Fl.Same.sm); (focus assumption); walk_at "fl.sm"))
local macro_rules | `(tactic| walk_at "fl.dk") => `(tactic| first
  | assumption
  | ((with_reducible apply Dk.newH); (focus assumption); walk_at "fl.dk")
  | ((with_reducible apply Dk.sm); (focus assumption); walk_at "fl.dk"))
local macro_rules | `(tactic| walk_at "fl.cz") => `(tactic| ((try simp only [List.length_drop, List.length_take, List.length_append, List.length_cons, List.length_nil, List.length_map, List.length_reverse, List.length_dropLast]); omega))
-- readings with plain lookups first, then the older steps
local macro_rules | `(tactic| walk_at "fl.t") => `(tactic| first
  | ((with_reducible apply g_ixL); (focus walk_at "fl.lk"); (focus first | assumption | exact at0 | rfl))
  | ((with_reducible apply g_ixT); (focus walk_at "fl.lk"); (focus first | assumption | rfl))
  | ((with_reducible apply g_lenL); (focus walk_at "fl.lk"))
  | ((with_reducible apply g_lenT); (focus walk_at "fl.lk"))
  | ((with_reducible apply g_listL); (focus walk_at "fl.lk"); intro _ _)
  | (with_reducible refine g_sl ?_)
  | (with_reducible refine g_part ?_)
  | (with_reducible refine g_nop ?_)
  | (with_reducible refine g_ei ?_)
  | ((with_reducible apply g_slF1); (focus walk_at "fl.lk"); intro _ _)
  | ((with_reducible apply g_slT1); (focus walk_at "fl.lk"); intro _ _)
  | ((with_reducible apply g_slB); (focus walk_at "fl.lk"); intro _ _)
  | ((with_reducible apply g_slE); (focus walk_at "fl.lk"); intro _ _)
  | ((with_reducible apply g_slF); (focus walk_at "fl.lk"); intro _ _)
  | ((with_reducible apply g_slTo); (focus walk_at "fl.lk"); intro _ _)
  | ((with_reducible apply g_sl2); (focus walk_at "fl.lk"); intro _ _)
  | ((with_reducible apply g_cat); (focus walk_at "fl.raw"); (focus walk_at "fl.raw"); (focus walk_at "fl.cz"); intro _ _)
  | ((with_reducible apply dr_app); (focus walk_at "fl.dk"); (focus first | (with_reducible assumption) | omega | walk_at "fl.side"); (focus first | (with_reducible assumption) | omega | walk_at "fl.side"); intro _ _ _ _ _ _)
  | ((with_reducible apply dk_app); (focus assumption); intro _ _ _ _ _)
  | ((with_reducible refine g_sz ?_ ?_); (focus walk_at "fl.cz"))
  | (with_reducible refine g_name ?_)
  | ((with_reducible apply g_minL); (focus walk_at "fl.lk"); (focus assumption))
  | ((with_reducible apply g_maxL); (focus walk_at "fl.lk"); (focus assumption))
  | ((with_reducible apply g_sum); (focus walk_at "fl.lk"))
  | (with_reducible refine g_nn ?_)
  | (with_reducible refine g_tru ?_)
  | ((with_reducible apply g_tru0); (focus walk_at "fl.lk"))
  | ((with_reducible apply g_tru1); (focus walk_at "fl.lk"))
  | (with_reducible refine g_yes ?_)
  | ((with_reducible apply g_gtup); (focus walk_at "fl.lk"); (focus rfl))
  | (with_reducible refine g_gcons ?_)
  | (with_reducible refine g_gnil ?_)
  | (with_reducible refine g_bm ?_)
  | ((with_reducible apply g_tyL); (focus walk_at "fl.lk"))
  | ((with_reducible apply g_app); (focus walk_at "fl.raw"); (focus walk_at "fl.cz"))
  | ((with_reducible apply g_ext); (focus walk_at "fl.raw"); (focus walk_at "fl.raw"); (focus walk_at "fl.cz"))
  | (with_reducible refine g_lc ?_)
  | (with_reducible refine g_for ?_)
  | (with_reducible refine g_rng1 ?_)
  | (with_reducible refine g_rng2 ?_)
  | (with_reducible refine g_il ?_)
  | (with_reducible refine g_zip ?_)
  | ((with_reducible apply g_e1); (focus walk_at "fl.cz"); (focus walk_at "fl.cz"))
  | ((with_reducible apply g_e2); (focus (refine ⟨?_, ?_, ?_, ?_⟩ <;> walk_at "fl.cz")))
  | ((with_reducible apply g_el); (focus walk_at "fl.lk"))
  | ((with_reducible apply g_ez); (focus walk_at "fl.lk"); (focus walk_at "fl.lk"))
  | walk_at "fl.s")
local macro_rules | `(tactic| walk_at "fl.w") => `(tactic| repeat walk_at "fl.t")
local macro_rules | `(tactic| walk_at "fl.wr") => `(tactic| ((repeat walk_at "fl.t"); try (first
  | (refine g_ite (fun _ => ?_) (fun _ => ?_); all_goals walk_at "fl.wr")
  | (refine g_iteN (fun _ => ?_) (fun _ => ?_); all_goals walk_at "fl.wr"))))

local macro_rules | `(tactic| walk_at "fl.t") => `(tactic| first
  | ((with_reducible apply g_slR0); (focus walk_at "fl.lk"); intro _ _)
  | (with_reducible refine g_lrev ?_)
  | ((with_reducible apply g_lrev2); (focus walk_at "fl.lk"); intro _ _)
  | (with_reducible refine g_eqS ?_))
local macro_rules | `(tactic| walk_at "fl.w") => `(tactic| repeat walk_at "fl.t")

section
variable {P : Program} {w : World} {K : PySem.W.Frag} {mg : Str → Option Value} {base : Heap}
theorem g_rev {ta tb : TE} {σ : L2.St} {H : Hp} {R : It → Hp → Prop} (h : ta σ H fun x H1 => tb σ H1 fun y H2 => ∃ i j, x = .int i ∧ y = .int j ∧ -(2 ^ 62) ≤ i ∧ i < 2 ^ 62 ∧ -(2 ^ 62) ≤ j ∧ j < 2 ^ 62 ∧ R (Itc (i + (((j - i).toNat : Nat) : Int) - 1) (-1) (j - i).toNat) H2) : iRevR (tRg2 ta tb) σ H R := by
  unfold iRevR tRg2
  exact h
local macro_rules | `(tactic| walk_at "fl.t") => `(tactic| first
  | (with_reducible refine g_rev ?_))
local macro_rules | `(tactic| walk_at "fl.w") => `(tactic| repeat walk_at "fl.t")
theorem len_app (a b : Str) : (a ++ b : Str).length = a.length + b.length := by
  show (a.cps ++ b.cps).size = a.cps.size + b.cps.size
  rw [Array.size_append]
theorem len_sgn (b : Bool) : (sgn b).length = 1 := by unfold sgn; cases b <;> rfl
theorem len_cat (f : Nat → Bool) : ∀ j, (catS ((List.range j).map fun c => sgn (f c))).length = j
  | 0 => rfl
  | j + 1 => by rw [List.range_succ, List.map_append, List.map_cons, List.map_nil, catS_snoc, len_app, len_cat f j, len_sgn]
theorem PL.nil {H : Hp} {e : Addr} (h : H e = some (.lst [])) : PL H e [] := ⟨⟨fun p m => (by cases m), fun p m => (by cases m)⟩, h⟩
/-- list of pairs != [] -/
theorem g_neE {H : Hp} {a e : Addr} {L : List (Addr × List Int)} {Q : VK} (h : PL H a L) (he : H e = some (.lst [])) (q : Q (.bl (!decide (L = []))) H) : rNeD K (.ref a) (.ref e) H Q := by
  refine ⟨_, _, h.dp, (PL.nil he).dp, sh_ln _, sh_ln _, ?_⟩
  cases L with
  | nil => simpa [lnD, PyData.eqv, PyData.eqvAll] using q
  | cons p L => simpa [lnD, PyData.eqv, PyData.eqvAll] using q
/-- two lists of pairs in order, each pair once, with the same pairs -/
theorem keys_eq {R U : List (Addr × List Int)} (tR : ∀ p, p ∈ R → ∃ i j, p.2 = [i, j]) (tU : ∀ p, p ∈ U → ∃ i j, p.2 = [i, j]) (n1 : (R.map (·.2)).Nodup) (n2 : (U.map (·.2)).Nodup) (s1 : R.Pairwise fun q r => Sx.leP q.2 r.2) (s2 : U.Pairwise fun q r => Sx.leP q.2 r.2) (k : ∀ k, k ∈ R.map (·.2) ↔ k ∈ U.map (·.2)) : R.map (·.2) = U.map (·.2) := by
  refine List.Perm.eq_of_pairwise (le := Sx.leP) (fun a b ma mb h1 h2 => ?_) (List.pairwise_map.mpr s1) (List.pairwise_map.mpr s2) ((List.perm_ext_iff_of_nodup n1 n2).mpr k)
  obtain ⟨p, mp, rfl⟩ := List.mem_map.mp ma
  obtain ⟨q, mq, rfl⟩ := List.mem_map.mp mb
  have e := Sx.leP_anti h1 h2
  obtain ⟨i, j, ep⟩ := tR p mp
  obtain ⟨i2, j2, eq⟩ := tU q mq
  show p.2 = q.2
  rw [ep, eq] at e ⊢
  have e1 : i = i2 := e.1
  have e2 : j = j2 := e.2
  rw [e1, e2]
theorem nd_app {L F : List (Addr × List Int)} (h : (L.map (·.2)).Nodup) (k : (F.map (·.2)).Nodup) (n : ∀ p, p ∈ F → p.2 ∉ L.map (·.2)) : ((L ++ F).map (·.2)).Nodup := by
  rw [List.map_append]
  refine List.nodup_append.mpr ⟨h, k, fun x hx y hy e => ?_⟩
  obtain ⟨p, mp, rfl⟩ := List.mem_map.mp hy
  exact n p mp (e ▸ hx)
/-- the pairs of both, each once -/
structure Un (L M U : List (Addr × List Int)) : Prop where
  nd : (U.map (·.2)).Nodup
  so : U.Pairwise fun q r => Sx.leP q.2 r.2
  key : ∀ k, k ∈ U.map (·.2) ↔ k ∈ L.map (·.2) ∨ k ∈ M.map (·.2)
  le : U.length ≤ L.length + M.length
theorem un_of {L M U : List (Addr × List Int)} (h : (L.map (·.2)).Nodup) (k : (M.map (·.2)).Nodup) (pm : U.Perm (L ++ M.filter fun p => !decide (p.2 ∈ L.map (·.2)))) (so : U.Pairwise fun q r => Sx.leP q.2 r.2) : Un L M U := by
  have sub : ((M.filter fun p => !decide (p.2 ∈ L.map (·.2))).map (·.2)).Sublist (M.map (·.2)) := List.filter_sublist.map _
  refine ⟨(pm.map (·.2)).nodup_iff.mpr (nd_app h (k.sublist sub) fun p m => by simpa using (List.mem_filter.mp m).2), so, fun x => ?_, ?_⟩
  · rw [(pm.map (·.2)).mem_iff, List.map_append, List.mem_append]
    constructor
    · rintro (m | m)
      · exact .inl m
      · exact .inr (sub.subset m)
    · rintro (m | m)
      · exact .inl m
      · by_cases e : x ∈ L.map (·.2)
        · exact .inl e
        · obtain ⟨p, mp, rfl⟩ := List.mem_map.mp m
          exact .inr (List.mem_map.mpr ⟨p, List.mem_filter.mpr ⟨mp, by simpa using e⟩, rfl⟩)
  · rw [pm.length_eq, List.length_append]
    have := List.length_filter_le (fun p : Addr × List Int => !decide (p.2 ∈ L.map (·.2))) M
    omega
/-- the corners -/
theorem un_ext {L M U : List (Addr × List Int)} (un : Un L M U) (pL : Px L) (pM : Px M) {l r b t : Int} (hl : IsMin l (U.map fun p => (kP p.2).1)) (hr : IsMax r (U.map fun p => (kP p.2).1)) (hb : IsMin b (U.map fun p => (kP p.2).2)) (ht : IsMax t (U.map fun p => (kP p.2).2)) :
    Ext U l r b t ∧ -20 ≤ l ∧ l ≤ r ∧ r ≤ 25 ∧ -20 ≤ b ∧ b ≤ t ∧ t ≤ 25 := by
  have bd : ∀ p, p ∈ U → -20 ≤ (kP p.2).1 ∧ (kP p.2).1 ≤ 25 ∧ -20 ≤ (kP p.2).2 ∧ (kP p.2).2 ≤ 25 := fun p m => by
    rcases (un.key p.2).mp (List.mem_map.mpr ⟨p, m, rfl⟩) with k | k
    · obtain ⟨c, mc, e⟩ := List.mem_map.mp k
      rw [← e]
      exact pL.bd c mc
    · obtain ⟨c, mc, e⟩ := List.mem_map.mp k
      rw [← e]
      exact pM.bd c mc
  obtain ⟨p1, m1, e1⟩ := List.mem_map.mp hl.1
  obtain ⟨p2, m2, e2⟩ := List.mem_map.mp hr.1
  obtain ⟨p3, m3, e3⟩ := List.mem_map.mp hb.1
  obtain ⟨p4, m4, e4⟩ := List.mem_map.mp ht.1
  have b1 := bd p1 m1
  have b2 := bd p2 m2
  have b3 := bd p3 m3
  have b4 := bd p4 m4
  have o1 := hl.2 r hr.1
  have o2 := hb.2 t ht.1
  exact ⟨⟨hl, hr, hb, ht, by omega⟩, by omega⟩
theorem PL.two {H : Hp} {a b c : Addr} {i j k m : Int} (h : H a = some (.lst [.ref b, .ref c])) (hb : H b = some (.tup [.int i, .int j])) (hc : H c = some (.tup [.int k, .int m])) : PL H a [(b, [i, j]), (c, [k, m])] := ⟨(TP.one hb).app (TP.one hc), h⟩
theorem ext2 {b c : Addr} {i j k m : Int} (h1 : i ≤ k) (h2 : j ≤ m) (h3 : -100000 ≤ i ∧ k ≤ 100000 ∧ -100000 ≤ j ∧ m ≤ 100000) : Ext [(b, [i, j]), (c, [k, m])] i k j m := by
  have e : ∀ p, p ∈ [(b, [i, j]), (c, [k, m])] → p.2 = [i, j] ∨ p.2 = [k, m] := fun p h => by
    rcases List.mem_cons.mp h with rfl | h
    · exact .inl rfl
    · rw [List.mem_singleton.mp h]; exact .inr rfl
  refine ⟨⟨List.mem_cons_self, fun x hx => ?_⟩, ⟨List.mem_cons_of_mem _ List.mem_cons_self, fun x hx => ?_⟩, ⟨List.mem_cons_self, fun x hx => ?_⟩, ⟨List.mem_cons_of_mem _ List.mem_cons_self, fun x hx => ?_⟩, h3⟩
  all_goals
    obtain ⟨p, mp, rfl⟩ := List.mem_map.mp hx
    rcases e p mp with z | z
    · rw [z]
      first | exact Int.le_refl _ | exact h1 | exact h2
    · rw [z]
      first | exact Int.le_refl _ | exact h1 | exact h2
theorem dq_strs {S : List Addr} {H : Hp} : ∀ ss : List Str, DqA S H (ss.map V.str) (ss.map PyData.str)
  | [] => .nil
  | s :: ss => .cons (.str s) (dq_strs ss)
theorem sh_twoL (l m : List Pr) : SeqAt.shaped (.list [lnD l, lnD m]) = true := by
  have h := sh_two l m
  unfold SeqAt.shaped at *
  simpa [PyData.canLay0, PyData.canLayAll0, PyData.depth, PyData.depthAll] using h
theorem memK_eq (U : List (Addr × List Int)) (i k : Int) : decide ([i, k] ∈ U.map (·.2)) = memK U i k := rfl
theorem g_sgn {H : Hp} {p : Addr} {Q : VK} (k : Bool) (h : H p = some (.lst [.str (Str.ofString "."), .str (Str.ofString "#")])) (q : Q (.str (sgn k)) H) : rIxL K (.ref p) (.int (if k = true then 1 else 0)) H Q := by
  refine g_ixL (SqL.of h) (v := .str (sgn k)) ?_ q
  cases k <;> rfl
theorem ok_law (T : Txt K mg) {f : Addr} {fd : FuncData} (F : Fun K "law" "law" s_law f fd) : FnOk P w K mg base CX0 12 f fd ps_law (Fl.spLaw K) := by
  have h_law_deck := ok_law_deck (P := P) (w := w) (base := base) T
  have h_law_draw := ok_law_draw (P := P) (w := w) (base := base) T
  have h_law_pixels := ok_law_pixels (P := P) (w := w) (base := base) T
  have h_moved_pixels := ok_moved_pixels (P := P) (w := w) (base := base) T
  have h_joined := ok_joined (P := P) (w := w) (base := base) T
  have h_picture := ok_picture (P := P) (w := w) (base := base) T
  have h_law_refused := ok_law_refused (P := P) (w := w) (base := base) T
  have h_law_same_list := ok_law_same_listA (P := P) (w := w) (base := base) T
  refine fnok_of F sc_law (fun vs H Q E h => ?_) (fun f cdv A outer s H vs Q E hr h => ?_)
  · obtain ⟨a, ns, rfl, _⟩ := h
    rfl
  · obtain ⟨a, ns, rfl, hS, hlen, q⟩ := h
    refine ⟨_, (pss_cons (ps_set (i := 1) sc_law.nd rfl (.inl rfl) (pe_h h_law_deck (hr.mono (by decide)) (pa_cons (pv 0) pa_nil)))
      (pss_cons (ps_set (i := 2) sc_law.nd rfl (.inr rfl) (pe_h h_law_pixels (hr.mono (by decide)) (pa_cons (pv 1) pa_nil)))
      (pss_cons (ps_set (i := 3) sc_law.nd rfl (.inl rfl) (pe_h h_law_pixels (hr.mono (by decide)) (pa_cons (pv 1) pa_nil)))
      (pss_cons (ps_set (i := 4) sc_law.nd rfl (.inl rfl) (pe_lst (pa_cons (pe_callTy (clList (K := K) rfl) (by rfl) T.z_list (by decide +kernel) (pa_cons (pv 2) pa_nil)) (pa_cons (pe_callTy (clList (K := K) rfl) (by rfl) T.z_list (by decide +kernel) (pa_cons (pv 3) pa_nil)) pa_nil))))
      (pss_cons (ps_set (i := 5) sc_law.nd rfl (.inr rfl) (pe_op op_sub (pe_h h_law_draw (hr.mono (by decide)) (pa_cons (pv 1) (pa_cons pe_int pa_nil))) pe_int))
      (pss_cons (ps_set (i := 6) sc_law.nd rfl (.inr rfl) (pe_op op_sub (pe_h h_law_draw (hr.mono (by decide)) (pa_cons (pv 1) (pa_cons pe_int pa_nil))) pe_int))
      (pss_cons (ps_if (pt_not (pt_val (pe_h h_law_same_list (hr.mono (by decide)) (pa_cons (pe_h h_moved_pixels (hr.mono (by decide)) (pa_cons (pv 2) (pa_cons (pv 5) (pa_cons (pv 6) pa_nil)))) (pa_cons (pe_lc (own := [("p", 15)]) rfl sc_law.nd (piL (K := K) rfl (pv 2)) (blkOk_by (by kernel_rfl)) (fun _ _ _ _ _ => (pg_name (i := 15) sc_law.nd rfl (.inl rfl))) (fun _ _ _ _ _ => pts_nil) (fun _ _ _ _ _ => (pe_tup (pa_cons (pe_op op_add (pe_ix (ixT (K := K) rfl) (pv 15) pe_int (fun _ _ => rfl)) (pv 5)) (pa_cons (pe_op op_add (pe_ix (ixT (K := K) rfl) (pv 15) pe_int (fun _ _ => rfl)) (pv 6)) pa_nil))))) pa_nil)))))
        (pss_one (ps_ret pe_bl))
        pss_nil)
      (pss_cons (ps_set (i := 7) sc_law.nd rfl (.inl rfl) (pe_callB (clSort2 (K := K) rfl hr.units) (by rfl) T.z_sorted (by decide +kernel) (pa_cons (pe_op op_cat (pv 2) (pe_lc (own := [("p", 15)]) rfl sc_law.nd (piL (K := K) rfl (pv 3)) (blkOk_by (by kernel_rfl)) (fun _ _ _ _ _ => (pg_name (i := 15) sc_law.nd rfl (.inl rfl))) (fun _ _ _ _ _ => (pts_one (pt_cmpR (opNotInD (K := K) rfl (hu65 hr)) (pv 15) (pv 2) (by rfl)))) (fun _ _ _ _ _ => (pv 15)))) pa_nil)))
      (pss_cons (ps_if (pt_not (pt_val (pe_h h_law_same_list (hr.mono (by decide)) (pa_cons (pe_h h_joined (hr.mono (by decide)) (pa_cons (pv 2) (pa_cons (pv 3) pa_nil))) (pa_cons (pv 7) pa_nil)))))
        (pss_one (ps_ret pe_bl))
        pss_nil)
      (pss_cons (ps_set (i := 8) sc_law.nd rfl (.inl rfl) (pe_lst pa_nil))
      (pss_cons (ps_if (pt_cmpR (opNeD (K := K) rfl hr.units) (pv 7) (pe_lst pa_nil) (nomark _))
        (pss_cons (ps_setLc (i := 9) (own := [("p", 15)]) rfl sc_law.nd rfl rfl (sw_true rfl rfl rfl (by decide +kernel)) (piL (K := K) rfl (pv 7)) (blkOk_by (by kernel_rfl)) (fun _ _ _ _ _ => (pg_name (i := 15) sc_law.nd rfl (.inl rfl))) (fun _ _ _ _ _ => pts_nil) (fun _ _ _ _ _ => (pe_ix (ixT (K := K) rfl) (pv 15) pe_int (fun _ _ => rfl))))
      (pss_cons (ps_setLc (i := 10) (own := [("p", 15)]) rfl sc_law.nd rfl rfl (sw_true rfl rfl rfl (by decide +kernel)) (piL (K := K) rfl (pv 7)) (blkOk_by (by kernel_rfl)) (fun _ _ _ _ _ => (pg_name (i := 15) sc_law.nd rfl (.inl rfl))) (fun _ _ _ _ _ => pts_nil) (fun _ _ _ _ _ => (pe_ix (ixT (K := K) rfl) (pv 15) pe_int (fun _ _ => rfl))))
      (pss_one (ps_for PassesOwn.never rfl (pi_revR (by rfl) T.z_reversed (prg_2 (by rfl) T.z_range (pe_callB (clMin (K := K) rfl rfl) (by rfl) T.z_min (by decide +kernel) (pa_cons (pv 10) pa_nil)) (pe_op op_add (pe_callB (clMax (K := K) rfl rfl) (by rfl) T.z_max (by decide +kernel) (pa_cons (pv 10) pa_nil)) pe_int))) (pg_name (i := 11) sc_law.nd rfl (.inl rfl))
        (pss_cons (ps_set (i := 12) sc_law.nd rfl (.inl rfl) pe_str)
      (pss_cons (ps_for PassesOwn.never rfl (pi_range2 (by rfl) T.z_range (pa_cons (pe_callB (clMin (K := K) rfl rfl) (by rfl) T.z_min (by decide +kernel) (pa_cons (pv 9) pa_nil)) (pa_cons (pe_op op_add (pe_callB (clMax (K := K) rfl rfl) (by rfl) T.z_max (by decide +kernel) (pa_cons (pv 9) pa_nil)) pe_int) pa_nil))) (pg_name (i := 13) sc_law.nd rfl (.inl rfl))
        (pss_one (ps_set (i := 12) sc_law.nd rfl (.inl rfl) (pe_op op_add_str (pv 12) (pe_ix (ixL (K := K) rfl) (pe_lst (pa_cons pe_str (pa_cons pe_str pa_nil))) (pe_callTy call_intB (by rfl) T.z_int (by decide +kernel) (pa_cons (pe_cmpR (opInD (K := K) rfl (hu65 hr)) (pe_tup (pa_cons (pv 13) (pa_cons (pv 11) pa_nil))) (pv 7) (by rfl)) pa_nil)) (fun _ _ => rfl))))))
      (pss_one (ps_expr (pe_bm PySem.F.plainAttrs_list PySem.F.slot_list_append PySem.F.type_list_append mt_append (pv 8) (pa_cons (pv 12) pa_nil))))))))))
        pss_nil)
      (pss_cons (ps_if (PW.pt (pw_or (pt_not (pt_val (pe_h h_law_same_list (hr.mono (by decide)) (pa_cons (pe_h h_picture (hr.mono (by decide)) (pa_cons (pv 7) pa_nil)) (pa_cons (pv 8) pa_nil))))) (pw_or1 (pt_cmpR (opNeD (K := K) rfl hr.units) (pe_lst (pa_cons (pv 2) (pa_cons (pv 3) pa_nil))) (pv 4) (nomark _)))))
        (pss_one (ps_ret pe_bl))
        pss_nil)
      (pss_cons (ps_set (i := 14) sc_law.nd rfl (.inl rfl) (pe_h h_law_draw (hr.mono (by decide)) (pa_cons (pv 1) (pa_cons pe_int pa_nil))))
      (pss_cons (ps_if (PW.pt (pw_or (pt_not (pt_val (pe_h h_law_refused (hr.mono (by decide)) (pa_cons (pe_lst (pa_cons (pe_tup (pa_cons (pv 14) (pa_cons pe_int pa_nil))) (pa_cons (pe_tup (pa_cons (pe_op op_add (pv 14) pe_int) (pa_cons pe_int pa_nil))) pa_nil))) pa_nil)))) (pw_or1 (pt_not (pt_val (pe_h h_law_refused (hr.mono (by decide)) (pa_cons (pe_lst (pa_cons (pe_tup (pa_cons pe_int (pa_cons (pv 14) pa_nil))) (pa_cons (pe_tup (pa_cons pe_int (pa_cons (pe_op op_add (pv 14) pe_int) pa_nil))) pa_nil))) pa_nil)))))))
        (pss_one (ps_ret pe_bl))
        pss_nil)
      (pss_one (ps_ret (pe_not (pe_h h_law_refused (hr.mono (by decide)) (pa_cons (pe_lst (pa_cons (pe_tup (pa_cons (pv 14) (pa_cons pe_int pa_nil))) (pa_cons (pe_tup (pa_cons (pe_op op_add (pv 14) pe_int) (pa_cons pe_int pa_nil))) pa_nil))) pa_nil))))))))))))))))))), ?_⟩
    walk_at "fl.w"
    rename_i d sk H1 s0 k0
    refine ⟨d, sk, ns, rfl, k0, fun c1 L H2 f2 k2 hL n1 pL => ?_⟩
    walk_at "fl.w"
    refine ⟨d, sk, ns, rfl, k2, fun c2 M H3 f3 k3 hM n2 pM => ?_⟩
    have hL3 := hL.fr f3 (fun b m xs => by rw [List.mem_singleton.mp m]; exact k2.nt xs) (by simpa using n1)
    have hls3 := hL3.ls
    have hms3 := hM.ls
    walk_at "fl.w"
    rename_i q1 hq1 q2 hq2 ql hql vm HA m0 m1 kA oA vn HB z0 z1 kB oB
    have kq1 := k3.newH (u := .lst (L.map fun p => V.ref p.1)) hq1
    have kq2 := kq1.newH (u := .lst (M.map fun p => V.ref p.1)) hq2
    have kql := kq2.newH (u := .lst [.ref q1, .ref q2]) hql
    have lp := pL.le
    have mp := pM.le
    have nq1 := k3.ned hq1
    have nq2 := kq1.ned hq2
    have nql := kq2.ned hql
    have hLB : PL HB c1 L := ((((hL3.newH hq1).newH hq2).newH hql).onk kql oA n1).onk kA oB n1
    have hMB : PL HB c2 M := ((((hM.newH hq1).newH hq2).newH hql).onk kql oA n2).onk kA oB n2
    have hPB : PL HB q1 L := (((((PL.new hL3.toTP hq1)).newH hq2).newH hql).onk kql oA nq1).onk kA oB nq1
    have hRB : PL HB q2 M := ((((PL.new (hM.newH hq1).toTP hq2)).newH hql).onk kql oA nq2).onk kA oB nq2
    have hQB : HB ql = some (.lst [.ref q1, .ref q2]) := oB.fr _ _ (by simpa using nql) (oA.fr _ _ (by simpa using nql) upd_same)
    clear hL3 hls3 hms3 hM kq1 kq2 kql kA oA oB hL k2 f2 k0 f3 k3 hq1 hq2 hql s0
    refine ⟨c1, L, vm - 45, vn - 45, rfl, hLB, by omega, fun mv H4 s4 hmv => ?_⟩
    have hL4 := hLB.same s4
    have hls4 := hL4.ls
    have hD4 : Dq [] H4 (.ref c1) (.list ((L.map fun p => kP p.2).map Fl.prD)) := hL4.dq0
    walk_at "fl.w"
    refine lcL (S := []) (fun i => ((((L.map fun p => kP p.2).map (mvP (vm - 45) (vn - 45)))).map Fl.prD)[i]?) .nil hD4 (by simp; omega) ?_ ?_
    · intro D i x e H2 hD he sm al hxe R N hR hN
      rw [List.getElem?_map] at he
      cases hc : (L.map fun p => kP p.2)[i]? with
      | none => rw [hc] at he; cases he
      | some p =>
        rw [hc] at he
        cases he
        obtain ⟨t, ts, rfl, nt, ht, hT⟩ := hxe.tupE
        obtain ⟨_, _, rfl, h1, hT⟩ := hT.consE
        obtain ⟨_, _, rfl, h2, hT⟩ := hT.consE
        cases hT.nilE
        cases h1.intE
        cases h2.intE
        obtain ⟨pp, mpp, epp⟩ := List.mem_map.mp (List.mem_of_getElem? hc)
        have bp := pL.bd pp mpp
        rw [epp] at bp
        walk_at "fl.w"
        refine ⟨rfl, ?_⟩
        walk_at "fl.w"
        refine hR (Fl.prD (mvP (vm - 45) (vn - 45) p)) _ _ (by rw [List.getElem?_map, List.getElem?_map, hc]; rfl) (by walk_at "fl.sm") (Dq.newT al (by assumption) (.cons (.int _) (.cons (.int _) .nil)))
    intro D5 H5 s5 nD5 hD5
    rw [fm_all (by simp)] at hD5
    walk_at "fl.w"
    refine ⟨[], [], _, _, _, rfl, by simp; omega, fun d md => ?_, hmv.same s5, hD5, ?_⟩
    · obtain ⟨p, _, rfl⟩ := List.mem_map.mp md
      exact .inl (tf_pr p)
    have hL5 := hL4.same s5
    have hM5 := (hMB.same s4).same s5
    have hls5 := hL5.ls
    have hms5 := hM5.ls
    walk_at "fl.w"
    refine lcP (fun p => !decide (p.2 ∈ L.map (·.2))) hM5 (by omega) (fun D H6 p hD sm6 mp R N hR hN => ⟨rfl, ?_⟩) (fun ap H6 sm6 hap hAP => ?_)
    · have hp6 := (hM5.same sm6).at_ p mp
      have tw := hM5.two p mp
      have hls6 := (hL5.same sm6).ls
      walk_at "fl.w"
      refine g_notInP (hL5.same sm6) hp6 tw ?_
      walk_at "fl.w"
      refine g_iteN (fun h1 => ?_) (fun h1 => ?_)
      · walk_at "fl.w"
        exact hR (by simp only [h1, decide_false]; rfl)
      · exact hN (by simp only [h1, decide_true]; rfl)
    have hL6 := hL5.same sm6
    have hls6 := hL6.ls
    have hals := hAP.ls
    have hlf := List.length_filter_le (fun p : Addr × List Int => !decide (p.2 ∈ L.map (·.2))) M
    walk_at "fl.w"
    rename_i cp hcp
    have hC : PL _ cp (L ++ M.filter fun p => !decide (p.2 ∈ L.map (·.2))) := ⟨(hL6.newH hcp).toTP.app (hAP.newH hcp).toTP, by rw [upd_same, List.map_append]⟩
    refine g_sort2 hC (by rw [List.length_append]; omega) (fun U up pmU pwU hup hU => ?_)
    have un := un_of pL.nd pM.nd pmU pwU
    have ule := un.le
    have sm7 := ((((s4.trans s5).trans sm6).trans (Fl.Same.new (o := .lst ((L.map fun q => V.ref q.1) ++ ((M.filter fun p => !decide (p.2 ∈ L.map (·.2))).map fun q => V.ref q.1))) hcp))).trans (Fl.Same.new (o := .lst (U.map fun q => V.ref q.1)) hup)
    have hLU := hLB.same sm7
    have hMU := hMB.same sm7
    walk_at "fl.w"
    refine ⟨c1, c2, L, M, rfl, hLU, hMU, by omega, fun jc R H8 s8 hR ndR soR keyR lenR => ?_⟩
    walk_at "fl.w"
    have hU8 := hU.same s8
    have eR : lnD (R.map fun p => kP p.2) = lnD (U.map fun p => kP p.2) := by
      have e := keys_eq hR.two hU8.two ndR un.nd soR un.so (fun k => by rw [keyR k, un.key k])
      have z : ∀ W : List (Addr × List Int), (W.map fun p => kP p.2) = (W.map (·.2)).map kP := fun W => by rw [List.map_map]; rfl
      rw [z R, z U, e]
    have dR := hR.dq0
    rw [eR] at dR
    refine ⟨[], [], _, _, _, rfl, by simp; omega, fun d md => ?_, dR, hU8.dq0, ?_⟩
    · obtain ⟨p, _, rfl⟩ := List.mem_map.mp md
      exact .inl (tf_pr p)
    have smU := sm7.trans s8
    have hLV := hLB.same smU
    have hMV := hMB.same smU
    have hPV := hPB.same smU
    have hRV := hRB.same smU
    have hQV := smU _ _ hQB
    have kV := kB.sm smU
    clear hLB hMB hPB hRB hQB kB sm7 s4 s5 sm6 hup hcp hap hD5 hmv hL4 hD4 nD5 hL5 hM5 hls4 hls5 hms5 hL6 hls6 hals hAP hC hlf hLU hMU hU pmU pwU dR eR ndR soR keyR lenR hR
    walk_at "fl.w"
    rename_i dz hdz ez hez
    have hUz := (hU8.newH (o := .lst []) hdz).newH (o := .lst []) hez
    have hdd : upd (upd H8 dz (.lst [])) ez (.lst []) dz = some (.lst []) := raw_new hez upd_same
    have f8 : Fl.Fr [dz] H8 (upd (upd H8 dz (.lst [])) ez (.lst [])) := Fr.same ((Fl.Same.new hdz).trans (Fl.Same.new hez))
    refine g_neE hUz upd_same ?_
    walk_at "fl.w"
    refine g_iteN (fun hne => ?_) (fun hem => ?_)
    · have hUs := hUz.ls
      walk_at "fl.w"
      refine lcPI (fun p => p.1) hUz (by omega) (fun D H2 b u v hD sm hb R hR => ?_) (fun D1 H9 s9 hD1 => ?_)
      · walk_at "fl.w"
        refine ⟨rfl, ?_⟩
        walk_at "fl.w"
        exact hR
      have hU9 := hUz.same s9
      have hUs9 := hU9.ls
      walk_at "fl.w"
      refine lcPI (fun p => p.2) hU9 (by omega) (fun D H2 b u v hD sm hb R hR => ?_) (fun D2 H10 s10 hD2 => ?_)
      · walk_at "fl.w"
        refine ⟨rfl, ?_⟩
        walk_at "fl.w"
        exact hR
      obtain ⟨l, hl⟩ := ex_min (U.map fun p => (kP p.2).1) (by simpa using hne)
      obtain ⟨r, hr'⟩ := ex_max (U.map fun p => (kP p.2).1) (by simpa using hne)
      obtain ⟨b, hb⟩ := ex_min (U.map fun p => (kP p.2).2) (by simpa using hne)
      obtain ⟨t, ht⟩ := ex_max (U.map fun p => (kP p.2).2) (by simpa using hne)
      walk_at "fl.w"
      obtain ⟨hE, bl, blr, br, bb, bbt, bt⟩ := un_ext un pL pM hl hr' hb ht
      refine ⟨b, t + 1, rfl, rfl, by omega, by omega, by omega, by omega, ?_⟩
      have s810 := s9.trans s10
      have hdd10 := s810 _ _ hdd
      have f10 : Fl.Fr [dz] H8 H10 := f8.trans (Fr.same s810)
      have n1 : D1 ≠ dz := fun e => by rw [e, s9 _ _ hdd] at hD1; injection hD1 with h; injection h with h; exact hne (List.map_eq_nil_iff.mp (List.map_eq_nil_iff.mp h.symm))
      have n2 : D2 ≠ dz := fun e => by rw [e, hdd10] at hD2; injection hD2 with h; injection h with h; exact hne (List.map_eq_nil_iff.mp (List.map_eq_nil_iff.mp h.symm))
      have hD1' := s10 _ _ hD1
      refine forK_c (fun i σ' H' => (∃ u11 u12 u13 u14 u15, σ' = [some (.ref a), some (.ref d), some (.ref c1), some (.ref c2), some (.ref ql), some (.int (vm - 45)), some (.int (vn - 45)), some (.ref up), some (.ref dz), some (.ref D1), some (.ref D2), u11, u12, u13, u14, u15]) ∧ H' dz = some (.lst (((List.range i).map fun j : Nat => rowT (memK U) l (r + 1 - l).toNat (t - (j : Int))).map V.str)) ∧ Fl.Fr [dz] H10 H') ⟨⟨_, _, _, _, _, rfl⟩, hdd10, Fl.Fr.refl⟩ ?_ ?_
      · intro i σ' H' hi ⟨⟨u11, u12, u13, u14, u15, e⟩, hr6, f6⟩
        subst e
        rw [show b + (((t + 1 - b).toNat : Nat) : Int) - 1 + (i : Nat) * -1 = t - (i : Int) by omega]
        have g1 := f6 _ _ (by simpa using n1) hD1'
        have g2 := f6 _ _ (by simpa using n2) hD2
        have hU6 := hU8.same (sm_of hdz (f10.trans f6))
        walk_at "fl.w"
        refine forK_r (fun j σ' H'' => (∃ u13, σ' = [some (.ref a), some (.ref d), some (.ref c1), some (.ref c2), some (.ref ql), some (.int (vm - 45)), some (.int (vn - 45)), some (.ref up), some (.ref dz), some (.ref D1), some (.ref D2), some (.int (t - (i : Int))), some (.str (catS ((List.range j).map fun c : Nat => sgn (memK U (l + (c : Int)) (t - (i : Int)))))), u13, u14, u15]) ∧ Same H' H'') ⟨⟨_, by rw [empty_eq]; rfl⟩, Same.refl _⟩ ?_ ?_
        · intro j σ' H'' hj ⟨⟨u13, e⟩, sj⟩
          subst e
          have hj46 : j < 46 := by omega
          walk_at "fl.w"
          rename_i pq hpq pt hpt
          have hUj := (((hU6.same sj).newH (o := .lst [.str (Str.ofString "."), .str (Str.ofString "#")]) hpq).newH (o := .tup [.int (l + (j : Int)), .int (t - (i : Int))]) hpt)
          refine g_inP (k := [l + (j : Int), t - (i : Int)]) hUj upd_same ⟨_, _, rfl⟩ ?_
          rw [memK_eq]
          walk_at "fl.w"
          refine g_sgn _ (raw_new hpt upd_same) ?_
          have hsz : (1000 : Nat) ≤ sizeLine := by decide
          refine ⟨_, _, rfl, rfl, by rw [len_cat, len_sgn]; omega, ?_⟩
          refine ⟨⟨some (.int (l + (j : Int))), ?_⟩, (sj.trans (Fl.Same.new hpq)).trans (Fl.Same.new hpt)⟩
          rw [List.range_succ, List.map_append, List.map_cons, List.map_nil, catS_snoc]
          rfl
        · intro σ' H'' ⟨⟨u13, e⟩, sj⟩
          subst e
          have hr7 := sj _ _ hr6
          walk_at "fl.w"
          refine g_app hr7 (by simp; omega) ?_
          refine ⟨⟨_, _, _, _, _, rfl⟩, ?_, (f6.trans (Fr.same sj)).trans (Fr.upd (by simp))⟩
          rw [upd_same, List.range_succ, List.map_append, List.map_append]
          rfl
      · intro σ' HT ⟨⟨u11, u12, u13, u14, u15, e⟩, hrT, fT⟩
        subst e
        have sV := sm_of hdz (f10.trans fT)
        have hpic : ∃ ss : List Str, HT dz = some (.lst (ss.map V.str)) ∧ ss.length ≤ 50 ∧ ∀ (H : Hp) (Q : VK), PL H up U → (∀ c H', Same H H' → H' c = some (.lst (ss.map V.str)) → Q (.ref c) H') → spPic [.ref up] H Q E0 := by
          refine ⟨picOf U l r b t, ?_, by simp [picOf, pic]; omega, fun H Q hu k => ⟨up, U, rfl, hu, by omega, .inr ⟨l, r, b, t, hE, by omega, by omega, k⟩⟩⟩
          rw [hrT, show (t + 1 - b).toNat = (t - (b - 1)).toNat by omega]
          rfl
        obtain ⟨ss, hss, lss, hpic⟩ := hpic
        walk_at "fl.w"
        refine hpic _ _ (hU8.same sV) (fun pc HW sW hpc => ?_)
        walk_at "fl.w"
        have sX := sV.trans sW
        have hLX := hLV.same sX
        have hMX := hMV.same sX
        have hPX := hPV.same sX
        have hRX := hRV.same sX
        have hQX := sX _ _ hQV
        have kX := kV.sm sX
        refine ⟨[], [], ss.map PyData.str, _, _, rfl, by simp; omega, fun d md => ?_, .lst (by simp) hpc (dq_strs ss), .lst (by simp) (sW _ _ hss) (dq_strs ss), ?_⟩
        · obtain ⟨z, _, rfl⟩ := List.mem_map.mp md
          exact .inr ⟨z, rfl⟩
        walk_at "fl.w"
        rename_i pk hpk
        have hLk := hLX.newH (o := .lst [.ref c1, .ref c2]) hpk
        have hMk := hMX.newH (o := .lst [.ref c1, .ref c2]) hpk
        have hPk := hPX.newH (o := .lst [.ref c1, .ref c2]) hpk
        have hRk := hRX.newH (o := .lst [.ref c1, .ref c2]) hpk
        have hQk := raw_new (u := .lst [.ref c1, .ref c2]) hpk hQX
        refine g_neD' (.lst (S := []) (by simp) upd_same (.cons hLk.dq0 (.cons hMk.dq0 .nil))) (.lst (S := []) (by simp) hQk (.cons hPk.dq0 (.cons hRk.dq0 .nil))) (sh_twoL _ _) (sh_twoL _ _) ?_
        rw [eqv_self (sh_twoL _ _)]
        have kK := kX.newH (u := .lst [.ref c1, .ref c2]) hpk
        walk_at "fl.w"
        rename_i x HX x0 x1 _ _ t1 ht1 t2 ht2 t3 ht3
        refine ⟨t3, _, x, x + 1000, 0, 0, rfl, PL.two upd_same (raw_new ht3 (raw_new ht2 upd_same)) (raw_new ht3 upd_same), by simp, ext2 (by omega) (by omega) (by omega), fun HY sY => ?_⟩
        rw [decide_eq_true (by omega : 1000 ≤ x + 1000 - x ∨ (1000 : Int) ≤ 0 - 0)]
        walk_at "fl.w"
        rename_i t4 ht4 t5 ht5 t6 ht6
        refine ⟨t6, _, 0, 0, x, x + 1000, rfl, PL.two upd_same (raw_new ht6 (raw_new ht5 upd_same)) (raw_new ht6 upd_same), by simp, ext2 (by omega) (by omega) (by omega), fun HZ sZ => ?_⟩
        rw [decide_eq_true (by omega : (1000 : Int) ≤ 0 - 0 ∨ 1000 ≤ x + 1000 - x)]
        walk_at "fl.w"
        rename_i t7 ht7 t8 ht8 t9 ht9
        refine ⟨t9, _, x, x + 999, 0, 0, rfl, PL.two upd_same (raw_new ht9 (raw_new ht8 upd_same)) (raw_new ht9 upd_same), by simp, ext2 (by omega) (by omega) (by omega), fun HQ sQ => ?_⟩
        rw [decide_eq_false (by omega : ¬ (1000 ≤ x + 999 - x ∨ (1000 : Int) ≤ 0 - 0))]
        walk_at "fl.w"
        exact q _
    · have sV : Same H8 _ := (Fl.Same.new (o := .lst []) hdz).trans (Fl.Same.new (o := .lst []) hez)
      have hem' : U = [] := by simpa using hem
      have hpic : ∃ ss : List Str, upd (upd H8 dz (.lst [])) ez (.lst []) dz = some (.lst (ss.map V.str)) ∧ ss.length ≤ 50 ∧ ∀ (H : Hp) (Q : VK), PL H up U → (∀ c H', Same H H' → H' c = some (.lst (ss.map V.str)) → Q (.ref c) H') → spPic [.ref up] H Q E0 :=
        ⟨[], hdd, by simp, fun H Q hu k => ⟨up, U, rfl, hu, by omega, .inl ⟨hem', k⟩⟩⟩
      obtain ⟨ss, hss, lss, hpic⟩ := hpic
      walk_at "fl.w"
      refine hpic _ _ (hU8.same sV) (fun pc HW sW hpc => ?_)
      walk_at "fl.w"
      have sX := sV.trans sW
      have hLX := hLV.same sX
      have hMX := hMV.same sX
      have hPX := hPV.same sX
      have hRX := hRV.same sX
      have hQX := sX _ _ hQV
      have kX := kV.sm sX
      refine ⟨[], [], ss.map PyData.str, _, _, rfl, by simp; omega, fun d md => ?_, .lst (by simp) hpc (dq_strs ss), .lst (by simp) (sW _ _ hss) (dq_strs ss), ?_⟩
      · obtain ⟨z, _, rfl⟩ := List.mem_map.mp md
        exact .inr ⟨z, rfl⟩
      walk_at "fl.w"
      rename_i pk hpk
      have hLk := hLX.newH (o := .lst [.ref c1, .ref c2]) hpk
      have hMk := hMX.newH (o := .lst [.ref c1, .ref c2]) hpk
      have hPk := hPX.newH (o := .lst [.ref c1, .ref c2]) hpk
      have hRk := hRX.newH (o := .lst [.ref c1, .ref c2]) hpk
      have hQk := raw_new (u := .lst [.ref c1, .ref c2]) hpk hQX
      refine g_neD' (.lst (S := []) (by simp) upd_same (.cons hLk.dq0 (.cons hMk.dq0 .nil))) (.lst (S := []) (by simp) hQk (.cons hPk.dq0 (.cons hRk.dq0 .nil))) (sh_twoL _ _) (sh_twoL _ _) ?_
      rw [eqv_self (sh_twoL _ _)]
      have kK := kX.newH (u := .lst [.ref c1, .ref c2]) hpk
      walk_at "fl.w"
      rename_i x HX x0 x1 _ _ t1 ht1 t2 ht2 t3 ht3
      refine ⟨t3, _, x, x + 1000, 0, 0, rfl, PL.two upd_same (raw_new ht3 (raw_new ht2 upd_same)) (raw_new ht3 upd_same), by simp, ext2 (by omega) (by omega) (by omega), fun HY sY => ?_⟩
      rw [decide_eq_true (by omega : 1000 ≤ x + 1000 - x ∨ (1000 : Int) ≤ 0 - 0)]
      walk_at "fl.w"
      rename_i t4 ht4 t5 ht5 t6 ht6
      refine ⟨t6, _, 0, 0, x, x + 1000, rfl, PL.two upd_same (raw_new ht6 (raw_new ht5 upd_same)) (raw_new ht6 upd_same), by simp, ext2 (by omega) (by omega) (by omega), fun HZ sZ => ?_⟩
      rw [decide_eq_true (by omega : (1000 : Int) ≤ 0 - 0 ∨ 1000 ≤ x + 1000 - x)]
      walk_at "fl.w"
      rename_i t7 ht7 t8 ht8 t9 ht9
      refine ⟨t9, _, x, x + 999, 0, 0, rfl, PL.two upd_same (raw_new ht9 (raw_new ht8 upd_same)) (raw_new ht9 upd_same), by simp, ext2 (by omega) (by omega) (by omega), fun HQ sQ => ?_⟩
      rw [decide_eq_false (by omega : ¬ (1000 ≤ x + 999 - x ∨ (1000 : Int) ≤ 0 - 0))]
      walk_at "fl.w"
      exact q _
end
abbrev spLaw (K : PySem.W.Frag) : Sp := Fl.spLaw K
theorem all_mk {l : PySem.W.OpenLaw} {w : World} {K : PySem.W.Frag} {h : Heap} {mg : Str → Option Value} {fa : Addr} (X : K.In h) (G : h.Ns mainGlobals mg) (hfa : mg "law" = some (.ref fa))
    {od0 an0 : Option Addr} {sl0 : Array (Option Value)} {oc0 kV0 dc0 pm0 cd0 ct0 : Value} {f0 : Addr}
    (a0 : PySem.W.nsIn K mainGlobals "moved_pixels" = some (some (.ref f0))) (l0 : K.lookup f0 = some ⟨oc0, od0, .func (PySem.W.fnOf "moved_pixels" "moved_pixels" (defArgs s_moved_pixels) (defBody s_moved_pixels) (defScope s_moved_pixels) .none kV0 dc0 pm0 an0 cd0 ct0), sl0⟩) (c0 : PySem.W.codeIn K cd0 "moved_pixels" = true) (k0 : PySem.W.keepIn K (.ref f0) = true)
    {od1 an1 : Option Addr} {sl1 : Array (Option Value)} {oc1 kV1 dc1 pm1 cd1 ct1 : Value} {f1 : Addr}
    (a1 : PySem.W.nsIn K mainGlobals "joined" = some (some (.ref f1))) (l1 : K.lookup f1 = some ⟨oc1, od1, .func (PySem.W.fnOf "joined" "joined" (defArgs s_joined) (defBody s_joined) (defScope s_joined) .none kV1 dc1 pm1 an1 cd1 ct1), sl1⟩) (c1 : PySem.W.codeIn K cd1 "joined" = true) (k1 : PySem.W.keepIn K (.ref f1) = true)
    {od2 an2 : Option Addr} {sl2 : Array (Option Value)} {oc2 kV2 dc2 pm2 cd2 ct2 : Value} {f2 : Addr}
    (a2 : PySem.W.nsIn K mainGlobals "picture" = some (some (.ref f2))) (l2 : K.lookup f2 = some ⟨oc2, od2, .func (PySem.W.fnOf "picture" "picture" (defArgs s_picture) (defBody s_picture) (defScope s_picture) .none kV2 dc2 pm2 an2 cd2 ct2), sl2⟩) (c2 : PySem.W.codeIn K cd2 "picture" = true) (k2 : PySem.W.keepIn K (.ref f2) = true)
    {od3 an3 : Option Addr} {sl3 : Array (Option Value)} {oc3 kV3 dc3 pm3 cd3 ct3 : Value} {f3 : Addr}
    (a3 : PySem.W.nsIn K mainGlobals "_law_deck" = some (some (.ref f3))) (l3 : K.lookup f3 = some ⟨oc3, od3, .func (PySem.W.fnOf "_law_deck" "_law_deck" (defArgs s_law_deck) (defBody s_law_deck) (defScope s_law_deck) .none kV3 dc3 pm3 an3 cd3 ct3), sl3⟩) (c3 : PySem.W.codeIn K cd3 "_law_deck" = true) (k3 : PySem.W.keepIn K (.ref f3) = true)
    {od4 an4 : Option Addr} {sl4 : Array (Option Value)} {oc4 kV4 dc4 pm4 cd4 ct4 : Value} {f4 : Addr}
    (a4 : PySem.W.nsIn K mainGlobals "_law_draw" = some (some (.ref f4))) (l4 : K.lookup f4 = some ⟨oc4, od4, .func (PySem.W.fnOf "_law_draw" "_law_draw" (defArgs s_law_draw) (defBody s_law_draw) (defScope s_law_draw) .none kV4 dc4 pm4 an4 cd4 ct4), sl4⟩) (c4 : PySem.W.codeIn K cd4 "_law_draw" = true) (k4 : PySem.W.keepIn K (.ref f4) = true)
    {od5 an5 : Option Addr} {sl5 : Array (Option Value)} {oc5 kV5 dc5 pm5 cd5 ct5 : Value} {f5 : Addr}
    (a5 : PySem.W.nsIn K mainGlobals "_law_same" = some (some (.ref f5))) (l5 : K.lookup f5 = some ⟨oc5, od5, .func (PySem.W.fnOf "_law_same" "_law_same" (defArgs s_law_same) (defBody s_law_same) (defScope s_law_same) .none kV5 dc5 pm5 an5 cd5 ct5), sl5⟩) (c5 : PySem.W.codeIn K cd5 "_law_same" = true) (k5 : PySem.W.keepIn K (.ref f5) = true)
    {od6 an6 : Option Addr} {sl6 : Array (Option Value)} {oc6 kV6 dc6 pm6 cd6 ct6 : Value} {f6 : Addr}
    (a6 : PySem.W.nsIn K mainGlobals "_law_same_list" = some (some (.ref f6))) (l6 : K.lookup f6 = some ⟨oc6, od6, .func (PySem.W.fnOf "_law_same_list" "_law_same_list" (defArgs s_law_same_list) (defBody s_law_same_list) (defScope s_law_same_list) .none kV6 dc6 pm6 an6 cd6 ct6), sl6⟩) (c6 : PySem.W.codeIn K cd6 "_law_same_list" = true) (k6 : PySem.W.keepIn K (.ref f6) = true)
    {od7 an7 : Option Addr} {sl7 : Array (Option Value)} {oc7 kV7 dc7 pm7 cd7 ct7 : Value} {f7 : Addr}
    (a7 : PySem.W.nsIn K mainGlobals "_law_pixels" = some (some (.ref f7))) (l7 : K.lookup f7 = some ⟨oc7, od7, .func (PySem.W.fnOf "_law_pixels" "_law_pixels" (defArgs s_law_pixels) (defBody s_law_pixels) (defScope s_law_pixels) .none kV7 dc7 pm7 an7 cd7 ct7), sl7⟩) (c7 : PySem.W.codeIn K cd7 "_law_pixels" = true) (k7 : PySem.W.keepIn K (.ref f7) = true)
    {od8 an8 : Option Addr} {sl8 : Array (Option Value)} {oc8 kV8 dc8 pm8 cd8 ct8 : Value} {f8 : Addr}
    (a8 : PySem.W.nsIn K mainGlobals "_law_refused" = some (some (.ref f8))) (l8 : K.lookup f8 = some ⟨oc8, od8, .func (PySem.W.fnOf "_law_refused" "_law_refused" (defArgs s_law_refused) (defBody s_law_refused) (defScope s_law_refused) .none kV8 dc8 pm8 an8 cd8 ct8), sl8⟩) (c8 : PySem.W.codeIn K cd8 "_law_refused" = true) (k8 : PySem.W.keepIn K (.ref f8) = true)
    {od9 an9 : Option Addr} {sl9 : Array (Option Value)} {oc9 kV9 dc9 pm9 cd9 ct9 : Value} {f9 : Addr}
    (a9 : PySem.W.nsIn K mainGlobals "law" = some (some (.ref f9))) (l9 : K.lookup f9 = some ⟨oc9, od9, .func (PySem.W.fnOf "law" "law" (defArgs s_law) (defBody s_law) (defScope s_law) .none kV9 dc9 pm9 an9 cd9 ct9), sl9⟩) (c9 : PySem.W.codeIn K cd9 "law" = true) (k9 : PySem.W.keepIn K (.ref f9) = true)
    (z_bool : PySem.W.nsIn K mainGlobals "bool" = some none)
    (z_int : PySem.W.nsIn K mainGlobals "int" = some none)
    (z_isinstance : PySem.W.nsIn K mainGlobals "isinstance" = some none)
    (z_len : PySem.W.nsIn K mainGlobals "len" = some none)
    (z_list : PySem.W.nsIn K mainGlobals "list" = some none)
    (z_max : PySem.W.nsIn K mainGlobals "max" = some none)
    (z_min : PySem.W.nsIn K mainGlobals "min" = some none)
    (z_range : PySem.W.nsIn K mainGlobals "range" = some none)
    (z_reversed : PySem.W.nsIn K mainGlobals "reversed" = some none)
    (z_set : PySem.W.nsIn K mainGlobals "set" = some none)
    (z_sorted : PySem.W.nsIn K mainGlobals "sorted" = some none)
    (z_str : PySem.W.nsIn K mainGlobals "str" = some none)
    (z_tuple : PySem.W.nsIn K mainGlobals "tuple" = some none)
    {gt_MOST_IN_PICTURE : Tok} (g_MOST_IN_PICTURE : PySem.W.nsIn K mainGlobals "MOST_IN_PICTURE" = some (some (.int (1000) gt_MOST_IN_PICTURE)))
    {C_FleuronError : Addr} (g_FleuronError : PySem.W.nsIn K mainGlobals "FleuronError" = some (some (.ref C_FleuronError))) (sg_FleuronError : PySem.W.specialIn K (.ref C_FleuronError) "__getattribute__" = some (some (.builtin "type.__getattribute__"))) (ty_FleuronError : PySem.W.typeIn K (.ref C_FleuronError) = some (.type "type")) (rd_FleuronError : PySem.W.readsIn K C_FleuronError (.type "type") = true) (fc_FleuronError : PySem.W.findCls K (.ref C_FleuronError) (.type "type") "__init__" = some (.val (.builtin "ValueError.__init__"))) (be_FleuronError : PySem.W.subIn K (.ref C_FleuronError) (.type "BaseException") = some true) (hd_FleuronError : PySem.W.hasDictIn K C_FleuronError = true) {C_TooLarge N_TooLarge fI_TooLarge : Addr} {nm_TooLarge qn_TooLarge : Str} {bs_TooLarge : List Value} {sn_TooLarge : List Str} {su_TooLarge : List Value} {ab_TooLarge : Bool} {co_TooLarge : Option Bool} {dd_TooLarge : Option Addr} {m0_TooLarge m1_TooLarge m2_TooLarge m3_TooLarge m5_TooLarge : Option Value} {oI_TooLarge kI_TooLarge dI_TooLarge pI_TooLarge cI_TooLarge tI_TooLarge : Value} {odI_TooLarge anI_TooLarge : Option Addr} {slI_TooLarge : Array (Option Value)} (g_TooLarge : PySem.W.nsIn K mainGlobals "TooLarge" = some (some (.ref C_TooLarge))) (xL_TooLarge : K.lookup C_TooLarge = some (excClassObj nm_TooLarge qn_TooLarge C_TooLarge N_TooLarge bs_TooLarge [.ref C_FleuronError, .type "ValueError", .type "Exception", .type "BaseException", .type "object"] true sn_TooLarge su_TooLarge ab_TooLarge co_TooLarge dd_TooLarge m0_TooLarge m1_TooLarge m2_TooLarge m3_TooLarge m5_TooLarge "ValueError.__new__")) (sa_TooLarge : PySem.W.findIn K (.ref C_TooLarge) "__setattr__" = some (some (.builtin "object.__setattr__"))) (be_TooLarge : PySem.W.subIn K (.ref C_TooLarge) (.type "BaseException") = some true) (ty_TooLarge : PySem.W.typeIn K (.ref C_TooLarge) = some (.type "type")) (kC_TooLarge : PySem.W.keepIn K (.ref C_TooLarge) = true) (hd_TooLarge : PySem.W.hasDictIn K C_TooLarge = true) (fn_TooLarge : PySem.W.findIn K (.ref C_TooLarge) "limit" = some none) (in_TooLarge : PySem.W.findIn K (.ref C_TooLarge) "__init__" = some (some (.ref fI_TooLarge))) (tf_TooLarge : PySem.W.typeIn K (.ref fI_TooLarge) = some (.type "function")) (li_TooLarge : K.lookup fI_TooLarge = some ⟨oI_TooLarge, odI_TooLarge, .func (PySem.W.fnOf "__init__" "TooLarge.__init__" (defArgs s_TooLarge) (defBody s_TooLarge) (defScope s_TooLarge) .none kI_TooLarge dI_TooLarge pI_TooLarge anI_TooLarge cI_TooLarge tI_TooLarge), slI_TooLarge⟩) (ci_TooLarge : PySem.W.codeIn K cI_TooLarge "TooLarge.__init__" = true) (ki_TooLarge : PySem.W.keepIn K (.ref fI_TooLarge) = true) (ss_TooLarge : PySem.W.subIn K (.ref C_TooLarge) (.ref C_TooLarge) = some true) :
    ∃ fd : FuncData, (∀ (s : Shared) (v : Value), BindsTo s fd ⟨[v], []⟩ [("script", v)]) ∧ ∀ base : Heap, K.In base → base.Ns mainGlobals mg → FnOk l.prog w K mg base CX0 12 fa fd ["script"] (spLaw K) := by
  have e := hfa.symm.trans (PySem.W.mg_of X G a9)
  cases e
  have T : Txt K mg := ⟨PySem.W.mg_none_of X G z_bool, PySem.W.mg_none_of X G z_int, PySem.W.mg_none_of X G z_isinstance, PySem.W.mg_none_of X G z_len, PySem.W.mg_none_of X G z_list, PySem.W.mg_none_of X G z_max, PySem.W.mg_none_of X G z_min, PySem.W.mg_none_of X G z_range, PySem.W.mg_none_of X G z_reversed, PySem.W.mg_none_of X G z_set, PySem.W.mg_none_of X G z_sorted, PySem.W.mg_none_of X G z_str, PySem.W.mg_none_of X G z_tuple, ⟨_, PySem.W.mg_of X G g_MOST_IN_PICTURE, _, rfl⟩, ⟨_, _, fun_mk l0 c0 k0, PySem.W.mg_of X G a0⟩, ⟨_, _, fun_mk l1 c1 k1, PySem.W.mg_of X G a1⟩, ⟨_, _, fun_mk l2 c2 k2, PySem.W.mg_of X G a2⟩, ⟨_, _, fun_mk l3 c3 k3, PySem.W.mg_of X G a3⟩, ⟨_, _, fun_mk l4 c4 k4, PySem.W.mg_of X G a4⟩, ⟨_, _, fun_mk l5 c5 k5, PySem.W.mg_of X G a5⟩, ⟨_, _, fun_mk l6 c6 k6, PySem.W.mg_of X G a6⟩, ⟨_, _, fun_mk l7 c7 k7, PySem.W.mg_of X G a7⟩, ⟨_, _, fun_mk l8 c8 k8, PySem.W.mg_of X G a8⟩, ⟨_, _, fun_mk l9 c9 k9, PySem.W.mg_of X G a9⟩, (by rw [adr_of (PySem.W.mg_of X G g_FleuronError)]; exact PySem.W.mg_of X G g_FleuronError), (by rw [adr_of (PySem.W.mg_of X G g_FleuronError)]; exact ⟨sg_FleuronError, ty_FleuronError, rd_FleuronError, fc_FleuronError⟩), ⟨by rw [adr_of (PySem.W.mg_of X G g_TooLarge)]; exact PySem.W.mg_of X G g_TooLarge, by rw [adr_of (PySem.W.mg_of X G g_TooLarge)]; exact ⟨⟨_, _, _, _, _, _, _, _, _, _, _, _, _, _, _, xL_TooLarge, by rfl⟩, sa_TooLarge, be_TooLarge, ty_TooLarge, kC_TooLarge⟩, by rw [adr_of (PySem.W.mg_of X G g_TooLarge)]; exact fn_TooLarge, by rw [adr_of (PySem.W.mg_of X G g_TooLarge)]; exact ⟨_, _, in_TooLarge, tf_TooLarge, fun_mk li_TooLarge ci_TooLarge ki_TooLarge⟩⟩, (by rw [adr_of (PySem.W.mg_of X G g_TooLarge)]; exact PySem.W.exm_ref be_TooLarge hd_TooLarge ty_TooLarge ss_TooLarge)⟩
  exact ⟨PySem.W.fnOf "law" "law" (defArgs s_law) (defBody s_law) (defScope s_law) .none kV9 dc9 pm9 an9 cd9 ct9, fun s v => .of_eq rfl, fun base _ _ => ok_law T (fun_mk l9 c9 k9)⟩
end K60
open PySem PySem.W PyProof.Rows
set_option maxHeartbeats 0 in
theorem PySem.Challenge.cw_fleuron_k60_pictures_of_pixels_holds : PySem.Challenge.rw_fleuron_k60_pictures_of_pixels.Holds := by
  w_on; o_law; k_head; (case hw => w_witness2)
  k_fill
  refine L2.walk_of (l := PySem.Challenge.rw_fleuron_k60_pictures_of_pixels) (n := 63) (k := 12) (x := "script") (CX := fun _ => L2.CX0) (sp := fun w => K60.spLaw _) rfl (by decide) rfl ⟨rfl, by decide, by decide⟩ (fun w h Y => PySem.W.kIn_of Y) ?F (fun _ _ a ns hl _ hS => ⟨a, ns, rfl, hS, hl, fun _ => rfl⟩) (fun _ _ _ _ _ h => h)
  case F =>
    intro w mg fa h KX G hmg
    refine' K60.all_mk KX G hmg ?a0 ?l0 ?c0 ?k0 ?a1 ?l1 ?c1 ?k1 ?a2 ?l2 ?c2 ?k2 ?a3 ?l3 ?c3 ?k3 ?a4 ?l4 ?c4 ?k4 ?a5 ?l5 ?c5 ?k5 ?a6 ?l6 ?c6 ?k6 ?a7 ?l7 ?c7 ?k7 ?a8 ?l8 ?c8 ?k8 ?a9 ?l9 ?c9 ?k9 ?z_bool ?z_int ?z_isinstance ?z_len ?z_list ?z_max ?z_min ?z_range ?z_reversed ?z_set ?z_sorted ?z_str ?z_tuple ?g_MOST_IN_PICTURE ?g_FleuronError ?sg_FleuronError ?ty_FleuronError ?rd_FleuronError ?fc_FleuronError ?be_FleuronError ?hd_FleuronError ?g_TooLarge ?xL_TooLarge ?sa_TooLarge ?be_TooLarge ?ty_TooLarge ?kC_TooLarge ?hd_TooLarge ?fn_TooLarge ?in_TooLarge ?tf_TooLarge ?li_TooLarge ?ci_TooLarge ?ki_TooLarge ?ss_TooLarge
    (case a0 => k_is); (case l0 => k_is); (case c0 => k_is); (case k0 => k_is); (case a1 => k_is); (case l1 => k_is); (case c1 => k_is); (case k1 => k_is); (case a2 => k_is); (case l2 => k_is); (case c2 => k_is); (case k2 => k_is); (case a3 => k_is); (case l3 => k_is); (case c3 => k_is); (case k3 => k_is); (case a4 => k_is); (case l4 => k_is); (case c4 => k_is); (case k4 => k_is); (case a5 => k_is); (case l5 => k_is); (case c5 => k_is); (case k5 => k_is); (case a6 => k_is); (case l6 => k_is); (case c6 => k_is); (case k6 => k_is); (case a7 => k_is); (case l7 => k_is); (case c7 => k_is); (case k7 => k_is); (case a8 => k_is); (case l8 => k_is); (case c8 => k_is); (case k8 => k_is); (case a9 => k_is); (case l9 => k_is); (case c9 => k_is); (case k9 => k_is); (case z_bool => k_is); (case z_int => k_is); (case z_isinstance => k_is); (case z_len => k_is); (case z_list => k_is); (case z_max => k_is); (case z_min => k_is); (case z_range => k_is); (case z_reversed => k_is); (case z_set => k_is); (case z_sorted => k_is); (case z_str => k_is); (case z_tuple => k_is); (case g_MOST_IN_PICTURE => k_is); (case g_FleuronError => k_is); (case sg_FleuronError => k_is); (case ty_FleuronError => k_is); (case rd_FleuronError => k_is); (case fc_FleuronError => k_is); (case be_FleuronError => k_is); (case hd_FleuronError => k_is); (case g_TooLarge => k_is); (case xL_TooLarge => k_is); (case sa_TooLarge => k_is); (case be_TooLarge => k_is); (case ty_TooLarge => k_is); (case kC_TooLarge => k_is); (case hd_TooLarge => k_is); (case fn_TooLarge => k_is); (case in_TooLarge => k_is); (case tf_TooLarge => k_is); (case li_TooLarge => k_is); (case ci_TooLarge => k_is); (case ki_TooLarge => k_is); (case ss_TooLarge => k_is)

