import PyProof.Rows.All
import Wide.All
import OpenK.AllK
import Wide.FinOn
import HandS.ForMost
import HandS.Wide
import HandS.IsInst
import HandS.Gcd
import HandS.Defaults
import PySem.Challenge.RW_fleuron_k07_whole_field_of_fractions
set_option Elab.async false
set_option linter.all false
set_option maxRecDepth 100000
set_option maxHeartbeats 4000000
namespace Fl
open PySem PySem.Spec PyProof.Rows L2

/-! ### defs of the text, and what they promise -/
structure DefIn (K : PySem.W.Frag) (mg : Str → Option Value) (x : Str) (st : Stmt) : Prop where
  ex : ∃ (f : Addr) (fd : FuncData), Fun K x x st f fd ∧ mg x = some (.ref f)

structure Has (P : Program) (w : World) (K : PySem.W.Frag) (mg : Str → Option Value) (base : Heap) (k : Nat) (x : Str) (ps : List Str) (sp : Sp) : Prop where
  ex : ∃ (f : Addr) (fd : FuncData), FnOk P w K mg base CX0 k f fd ps sp ∧ mg x = some (.ref f) ∧ PySem.W.keepIn K (.ref f) = true ∧ Binds K fd ps []

section
variable {P : Program} {w : World} {K : PySem.W.Frag} {mg : Str → Option Value} {base : Heap}
theorem Has.mono {j k : Nat} {x : Str} {ps : List Str} {sp : Sp} (h : Has P w K mg base j x ps sp) (e : j ≤ k) : Has P w K mg base k x ps sp := by
  obtain ⟨f, fd, a, b, c, d⟩ := h.ex
  exact ⟨f, fd, a.mono e, b, c, d⟩
/-- the context of a def's body -/
abbrev bx (P : Program) (w : World) (K : PySem.W.Frag) (mg : Str → Option Value) (base : Heap) (N : List Str) (x : Str) (st : Stmt) (f : Addr) (cdv : Value) (A : Around) (outer : List Env) (s : Shared) (H : Hp) (E : XK) : Cx :=
  (cxOf CX0 P w K mg base N x (defScope st) f cdv A outer s H E).nox
theorem fnok_of {x : Str} {st : Stmt} {N ps : List Str} {k : Nat} {sp : Sp} {f : Addr} {fd : FuncData} (F : Fun K x x st f fd) (S : FnScope N ps (defScope st))
    (len : ∀ vs H Q E, sp vs H Q E → vs.length = ps.length)
    (hbody : ∀ (f : Addr) (cdv : Value) (A : Around) (outer : List Env) (s : Shared) (H : Hp) (vs : List V) (Q : VK) (E : XK), Room k (A.deeper (envOfC x (defScope st) s.heap.objs.size f cdv)) → sp vs H Q E →
      ∃ t, PSs (bx P w K mg base N x st f cdv A outer s H E) (defBody st) t ∧ t { nx := fun _ H' => Q .non H', rt := Q } (start N vs) H) : FnOk P w K mg base CX0 (k + 1) f fd ps sp :=
  F.ok S len fun cdv A outer s H vs Q E hr h => hbody f cdv A outer s H vs Q E hr h
theorem has_of {x : Str} {st : Stmt} {N ps : List Str} {k : Nat} {sp : Sp} (D : DefIn K mg x st) (S : FnScope N ps (defScope st))
    (hb : ∀ (kV doc pm : Value) (an : Option Addr) (cdv ct : Value) (us : List Value), us.length = ps.length → bindArgs (PySem.W.fnOf x x (defArgs st) (defBody st) (defScope st) .none kV doc pm an cdv ct) ⟨us, []⟩ = pure (ps.zip us))
    (len : ∀ vs H Q E, sp vs H Q E → vs.length = ps.length)
    (hbody : ∀ (f : Addr) (cdv : Value) (A : Around) (outer : List Env) (s : Shared) (H : Hp) (vs : List V) (Q : VK) (E : XK), Room k (A.deeper (envOfC x (defScope st) s.heap.objs.size f cdv)) → sp vs H Q E →
      ∃ t, PSs (bx P w K mg base N x st f cdv A outer s H E) (defBody st) t ∧ t { nx := fun _ H' => Q .non H', rt := Q } (start N vs) H) : Has P w K mg base (k + 1) x ps sp := by
  obtain ⟨f, fd, F, m⟩ := D.ex
  exact ⟨f, fd, fnok_of F S len hbody, m, F.kp, F.binds hb⟩
end
section
variable {X : Cx}
theorem pe_h {k : Nat} {x : Str} {ps : List Str} {sp : Sp} {e : Expr} {es : List Expr} {t : TA} {p pos : Pos} (h : Has X.prog X.w X.K X.mg X.base k x ps sp) (hr : Room k X.A) (ha : PA X (e :: es) t) (hg : Gl X x := by rfl)
    (hdb : (x == ("__debug__" : Str)) = false := by decide) (he : starEach (e :: es) X.env = (false, eval e X.env) :: starEach es X.env := by rfl) (hpl : (backTo pos (starEach es X.env)).any (·.1) = false := by rfl) :
    PE X (.Call (.Name x p) (e :: es) [] pos) (tCall sp [] E0 t) := by
  obtain ⟨f, fd, a, b, c, d⟩ := h.ex
  exact pe_call a hr hg b c d .nil pass0 ha hdb he hpl
end

/-! ### heaps: all stands but at one address -/
def Ex1 (d : Addr) (H H' : Hp) : Prop := ∀ a o, a ≠ d → H a = some o → H' a = some o
theorem Ex1.refl {d : Addr} {H : Hp} : Ex1 d H H := fun _ _ _ h => h
theorem Ex1.trans {d : Addr} {H H1 H2 : Hp} (a : Ex1 d H H1) (b : Ex1 d H1 H2) : Ex1 d H H2 := fun x o n h => b x o n (a x o n h)
theorem Ex1.upd {d : Addr} {H : Hp} {o : HO} : Ex1 d H (upd H d o) := fun a u n h => by rw [upd_ne n]; exact h
theorem Ex1.of {d : Addr} {H H' : Hp} (h : Same H H') : Ex1 d H H' := fun a o _ e => h a o e
theorem Ex1.rd {d : Addr} {H H' : Hp} {a : Addr} {u : HO} (e : Ex1 d H H') (n : a ≠ d) (h : Rd H a u) : Rd H' a u := by
  rcases h with h | ⟨o, h⟩
  · exact Or.inl (e a _ n h)
  · exact Or.inr ⟨o, e a _ n h⟩
theorem Ex1.l {K : PySem.W.Frag} {d : Addr} {H H' : Hp} {a : Addr} {xs : List V} (e : Ex1 d H H') (n : a ≠ d) (h : SqL K H a xs) : SqL K H' a xs := by
  rcases h with h | h
  · exact Or.inl (e.rd n h)
  · exact Or.inr h
theorem Ex1.t {K : PySem.W.Frag} {d : Addr} {H H' : Hp} {a : Addr} {xs : List V} (e : Ex1 d H H') (n : a ≠ d) (h : SqT K H a xs) : SqT K H' a xs := by
  rcases h with h | h
  · exact Or.inl (e.rd n h)
  · exact Or.inr h

/-! ### the deck -/
def DeckAt (K : PySem.W.Frag) (H : Hp) (d : Addr) : Prop := ∃ (s : Addr) (ns : List Int) (pos rest seed : Int), H d = some (.lst [.ref s, .int pos, .int rest, .int seed]) ∧ SqL K H s (ns.map V.int) ∧ s ≠ d ∧ 0 ≤ pos
theorem DeckAt.same {K : PySem.W.Frag} {H H' : Hp} {d : Addr} (h : DeckAt K H d) (e : Same H H') : DeckAt K H' d := by
  obtain ⟨s, ns, p, r, q, h1, h2, h3, h4⟩ := h
  exact ⟨s, ns, p, r, q, e _ _ h1, e.seq h2, h3, h4⟩
theorem Same.new {H : Hp} {p : Addr} {o : HO} (h : H p = none) : Same H (upd H p o) := fun a u e => by
  rw [upd_ne (ne_of_none e h)]
  exact e
def spDraw (K : PySem.W.Frag) : Sp := fun vs H Q _ => ∃ (d : Addr) (m : Int), vs = [.ref d, .int m] ∧ DeckAt K H d ∧ 0 < m ∧ m < 10 ^ 62 ∧ ∀ v H', 0 ≤ v → v < m → DeckAt K H' d → Ex1 d H H' → Q (.int v) H'
def spDeck (K : PySem.W.Frag) : Sp := fun vs H Q _ => ∃ (a : Addr) (ns : List Int), vs = [.ref a] ∧ SqL K H a (ns.map V.int) ∧ ∀ d H', H d = none → DeckAt K H' d → Same H H' → Q (.ref d) H'
theorem div62 {i m : Int} (h : 0 < m) (h1 : m < 10 ^ 62) : CDivW i m := by
  have e : (10 : Int) ^ 62 < 2 ^ 250 := by decide
  refine wide_div (b := 250) h ?_ (by decide) (by decide)
  have e1 : (10 : Nat) ^ 62 < 2 ^ 250 := by decide
  have e2 : m.natAbs < 10 ^ 62 := by omega
  omega

/-! ### readings, step by step -/
section
variable {σ : L2.St} {H : Hp} {Q : VK} {v x y : V} {ta tb tc te : TE} {K : PySem.W.Frag} {D : Ends} {t u : TS}
theorem g_var {i : Nat} (h : σ[i]? = some (some v)) (q : Q v H) : tVar i σ H Q := ⟨v, h, q⟩
theorem g_c (q : Q v H) : tC v σ H Q := q
theorem g_op {r : R2} (h : ta σ H fun x H1 => tb σ H1 fun y H2 => r x y H2 Q) : tOp r ta tb σ H Q := h
theorem g_un {r : V → Hp → VK → Prop} (h : ta σ H fun x H1 => r x H1 Q) : tUn r ta σ H Q := h
theorem g_I0 {g : Int → Int → V} {i j : Int} (q : Q (g i j) H) : rI0 g (.int i) (.int j) H Q := ⟨i, j, rfl, rfl, q⟩
theorem g_I {C : Int → Int → Prop} {g : Int → Int → V} {i j : Int} (c : C i j) (q : Q (g i j) H) : rI C g (.int i) (.int j) H Q := ⟨i, j, rfl, rfl, c, q⟩
theorem g_U {g : Int → V} {i : Int} (q : Q (g i) H) : rU g (.int i) H Q := ⟨i, rfl, q⟩
theorem g_ixL {p : Addr} {xs : List V} {i : Int} (h : SqL K H p xs) (a : atI xs i = some v) (q : Q v H) : rIxL K (.ref p) (.int i) H Q := ⟨p, xs, i, v, rfl, rfl, h, a, q⟩
theorem g_ixT {p : Addr} {xs : List V} {i : Int} (h : SqT K H p xs) (a : atI xs i = some v) (q : Q v H) : rIxT K (.ref p) (.int i) H Q := ⟨p, xs, i, v, rfl, rfl, h, a, q⟩
theorem g_eq (h : scal x y = true) (q : Q (.bl (decide (x = y))) H) : rEq x y H Q := ⟨h, q⟩
theorem g_ne (h : scal x y = true) (q : Q (.bl (!decide (x = y))) H) : rNe x y H Q := ⟨h, q⟩
theorem g_eqI {i j : Int} (q : Q (.bl (decide (i = j))) H) : rEq (.int i) (.int j) H Q := ⟨rfl, by
  have e : decide (V.int i = V.int j) = decide (i = j) := by simp
  rw [e]; exact q⟩
theorem g_neI {i j : Int} (q : Q (.bl (!decide (i = j))) H) : rNe (.int i) (.int j) H Q := ⟨rfl, by
  have e : decide (V.int i = V.int j) = decide (i = j) := by simp
  rw [e]; exact q⟩
theorem g_eqB {i j : Bool} (q : Q (.bl (decide (i = j))) H) : rEq (.bl i) (.bl j) H Q := ⟨rfl, by
  have e : decide (V.bl i = V.bl j) = decide (i = j) := by simp
  rw [e]; exact q⟩
/-! calls of built-ins, by named readings -/
def rInt : List V → Hp → VK → Prop := fun xs H Q => ∃ i, xs = [.int i] ∧ Q (.int i) H
def rIntB : List V → Hp → VK → Prop := fun xs H Q => ∃ k, xs = [.bl k] ∧ Q (.int (if k then 1 else 0)) H
def rAbs : List V → Hp → VK → Prop := fun xs H Q => ∃ i, xs = [.int i] ∧ Q (.int (if i < 0 then -i else i)) H
def rMax : List V → Hp → VK → Prop := fun xs H Q => ∃ i j, xs = [.int i, .int j] ∧ Q (.int (if j > i then j else i)) H
def rMin : List V → Hp → VK → Prop := fun xs H Q => ∃ i j, xs = [.int i, .int j] ∧ Q (.int (if j < i then j else i)) H
def rLen (K : PySem.W.Frag) : List V → Hp → VK → Prop := fun xs H Q => ∃ p ys, xs = [.ref p] ∧ (SqL K H p ys ∨ SqT K H p ys) ∧ Q (.int (ys.length : Int)) H
def rList (K : PySem.W.Frag) : List V → Hp → VK → Prop := fun xs H Q => ∃ p ys, xs = [.ref p] ∧ (SqL K H p ys ∨ SqT K H p ys) ∧ ∀ l, H l = none → Q (.ref l) (upd H l (.lst ys))
theorem g_cb1 {r : List V → Hp → VK → Prop} (h : ta σ H fun x H1 => r [x] H1 Q) : tCB r (tCons ta tNil) σ H Q := h
theorem g_cb2 {r : List V → Hp → VK → Prop} (h : ta σ H fun x H1 => tb σ H1 fun y H2 => r [x, y] H2 Q) : tCB r (tCons ta (tCons tb tNil)) σ H Q := h
theorem g_int {i : Int} (q : Q (.int i) H) : rInt [.int i] H Q := ⟨i, rfl, q⟩
theorem g_intB {k : Bool} (q : Q (.int (if k then 1 else 0)) H) : rIntB [.bl k] H Q := ⟨k, rfl, q⟩
theorem g_abs {i : Int} (q : Q (.int (if i < 0 then -i else i)) H) : rAbs [.int i] H Q := ⟨i, rfl, q⟩
theorem g_max {i j : Int} (q : Q (.int (if j > i then j else i)) H) : rMax [.int i, .int j] H Q := ⟨i, j, rfl, q⟩
theorem g_min {i j : Int} (q : Q (.int (if j < i then j else i)) H) : rMin [.int i, .int j] H Q := ⟨i, j, rfl, q⟩
theorem g_lenL {p : Addr} {ys : List V} (h : SqL K H p ys) (q : Q (.int (ys.length : Int)) H) : rLen K [.ref p] H Q := ⟨p, ys, rfl, .inl h, q⟩
theorem g_lenT {p : Addr} {ys : List V} (h : SqT K H p ys) (q : Q (.int (ys.length : Int)) H) : rLen K [.ref p] H Q := ⟨p, ys, rfl, .inr h, q⟩
theorem g_listL {p : Addr} {ys : List V} (h : SqL K H p ys) (q : ∀ l, H l = none → Q (.ref l) (upd H l (.lst ys))) : rList K [.ref p] H Q := ⟨p, ys, rfl, .inl h, q⟩
theorem g_gcd {a b : Int} (q : Q (.int ((Nat.gcd a.natAbs b.natAbs : Nat) : Int)) H) : rGcd [.int a, .int b] H Q := ⟨a, b, rfl, q⟩
theorem g_isi {c : V} {ty w : Value} {b : Bool} (hc : ClsV c w) (ht : TyX K H x ty) (e : PySem.W.kitOne K ty w = some b) (q : Q (.bl b) H) : rIsi K [x, c] H Q := ⟨x, c, ty, w, b, rfl, hc, ht, e, q⟩
/-- isinstance(x, T), T a built-in type's name, x of the built-in type n -/
theorem g_isiT {n m : String} {b : Bool} (ht : TyX K H x (.type n)) (e : kitB n m = some b) (q : Q (.bl b) H) : rIsi K [x, .ty m] H Q := ⟨x, .ty m, .type n, .type m, b, rfl, .ty m, ht, kit_ty e, q⟩
/-! displays -/
theorem g_tup2 (h : ta σ H fun x H1 => tb σ H1 fun y H2 => ∀ p, H2 p = none → Q (.ref p) (upd H2 p (.tup [x, y]))) : tTup (tCons ta (tCons tb tNil)) σ H Q := by
  show ta σ H fun x H1 => tb σ H1 fun y H2 => 2 ≤ sizeLine ∧ ∀ p, H2 p = none → Q (.ref p) (upd H2 p (.tup [x, y]))
  simpa [show (2 : Nat) ≤ sizeLine by decide] using h
theorem g_tupN {ta : TA} (h : ta σ H fun xs H1 => xs.length ≤ sizeLine ∧ ∀ p, H1 p = none → Q (.ref p) (upd H1 p (.tup xs))) : tTup ta σ H Q := h
theorem g_lstN {ta : TA} (h : ta σ H fun xs H1 => xs.length ≤ sizeLine ∧ ∀ p, H1 p = none → Q (.ref p) (upd H1 p (.lst xs))) : tLst ta σ H Q := h
theorem g_nil {Q : List V → Hp → Prop} (q : Q [] H) : tNil σ H Q := q
theorem g_cons {tr : TA} {Q : List V → Hp → Prop} (h : ta σ H fun x H1 => tr σ H1 fun xs H2 => Q (x :: xs) H2) : tCons ta tr σ H Q := h
theorem g_new {n : Nat} {Q : Addr → Hp → Prop} {f : Addr → Hp} (hn : n ≤ 1000) (h : ∀ p, H p = none → Q p (f p)) : n ≤ sizeLine ∧ ∀ p, H p = none → Q p (f p) := ⟨Nat.le_trans hn (by decide), h⟩
/-! tests -/
variable {QB : Bool → Hp → Prop} {tt tu : TT}
theorem g_test (h : te σ H fun x H1 => ∃ k, x = .bl k ∧ QB k H1) : tTest te σ H QB := h
theorem g_B (h : te σ H fun x H1 => ∃ k, x = .bl k ∧ QB k H1) : tB te σ H QB := h
theorem g_bl {b : Bool} (q : QB b H) : ∃ k, V.bl b = .bl k ∧ QB k H := ⟨b, rfl, q⟩
theorem g_not (h : tt σ H fun b H1 => QB (!b) H1) : tNot tt σ H QB := h
theorem g_and (h : tt σ H fun b H1 => if b = true then tu σ H1 QB else QB false H1) : tAnd tt tu σ H QB := h
theorem g_or (h : tt σ H fun b H1 => if b = true then QB true H1 else tu σ H1 QB) : tOr tt tu σ H QB := h
theorem g_andV (h : ta σ H fun x H1 => ∃ c, x = .bl c ∧ if c = true then tb σ H1 Q else Q (.bl false) H1) : tAndV ta tb σ H Q := h
theorem g_orV (h : ta σ H fun x H1 => ∃ c, x = .bl c ∧ if c = true then Q (.bl true) H1 else tb σ H1 Q) : tOrV ta tb σ H Q := h
theorem g_notV (h : ta σ H fun x H1 => ∃ c, x = .bl c ∧ Q (.bl (!c)) H1) : tNotV ta σ H Q := h
theorem g_ex {b : Bool} {P : Bool → Prop} (q : P b) : ∃ c, V.bl b = .bl c ∧ P c := ⟨b, rfl, q⟩
theorem g_ite {p : Prop} [Decidable p] {A B : Prop} (h1 : p → A) (h2 : ¬ p → B) : if decide p = true then A else B := by
  by_cases h : p
  · rw [decide_eq_true h, if_pos rfl]; exact h1 h
  · rw [decide_eq_false h, if_neg Bool.false_ne_true]; exact h2 h
theorem g_iteN {p : Prop} [Decidable p] {A B : Prop} (h1 : ¬ p → A) (h2 : p → B) : if (!decide p) = true then A else B := by
  by_cases h : p
  · rw [decide_eq_true h, if_neg (by decide)]; exact h2 h
  · rw [decide_eq_false h, if_pos (by decide)]; exact h1 h
theorem g_iteT {A B : Prop} (h : A) : if true = true then A else B := by rw [if_pos rfl]; exact h
theorem g_iteF {A B : Prop} (h : B) : if false = true then A else B := by rw [if_neg Bool.false_ne_true]; exact h
theorem g_iteNT {A B : Prop} (h : B) : if (!true) = true then A else B := by rw [if_neg (by decide)]; exact h
theorem g_iteNF {A B : Prop} (h : A) : if (!false) = true then A else B := by rw [if_pos (by decide)]; exact h
theorem g_iteB {b : Bool} {A B : Prop} (h1 : b = true → A) (h2 : b = false → B) : if b = true then A else B := by
  cases b with
  | true => rw [if_pos rfl]; exact h1 rfl
  | false => rw [if_neg Bool.false_ne_true]; exact h2 rfl
/-! statements -/
variable {g : TG}
theorem g_seq (h : t { D with nx := u D } σ H) : tSeq t u D σ H := h
theorem g_next (q : D.nx σ H) : tNext D σ H := q
theorem g_ret (h : te σ H D.rt) : tRet te D σ H := h
theorem g_if {c : TT} (h : c σ H fun b H1 => if b = true then t D σ H1 else u D σ H1) : tIfS c t u D σ H := h
theorem g_set {i : Nat} (h : te σ H fun x H1 => D.nx (σ.set i (some x)) H1) : tAsg te (gName i) D σ H := h
theorem g_setS (h : te σ H fun x H1 => ta σ H1 fun o H2 => tb σ H2 fun i H3 => rSetL o i x H3 fun H4 => D.nx σ H4) : tAsg te (gSub ta tb rSetL) D σ H := h
theorem g_setL {p : Addr} {xs : List V} {k : Int} {j : Nat} {Q : Hp → Prop} (h : H p = some (.lst xs)) (e : ixN xs.length k = some j) (q : Q (upd H p (.lst (xs.set j v)))) : rSetL (.ref p) (.int k) v H Q := ⟨p, xs, k, j, rfl, rfl, h, e, q⟩
theorem g_drop (h : te σ H fun _ H1 => D.nx σ H1) : tDrop te D σ H := h
theorem g_aug {i : Nat} {r : TIp} (hx : σ[i]? = some (some x)) (h : te σ H fun y H1 => r x y H1 fun z H2 => D.nx (σ.set i (some z)) H2) : tAug i te r D σ H := ⟨x, hx, h⟩
theorem g_ipI {f : Int → Int → Int} {i j : Int} (q : Q (.int (f i j)) H) : ipI f (.int i) (.int j) H Q := ⟨i, j, rfl, rfl, q⟩
theorem g_call {sp : Sp} {E : XK} {ta : TA} (h : ta σ H fun vs H1 => sp vs H1 Q E) : tCall sp [] E ta σ H Q := by
  show ta σ H fun vs H1 => sp (vs ++ []) H1 Q E
  simpa using h
end
section
variable {X : Cx}
theorem pe_powc {a b r : Int} {j1 j2 : Nat} {p1 p2 pos : Pos} (h : 0 ≤ b ∧ b ≤ 1000000 ∧ a.natAbs < 2 ^ 64) (e : a ^ b.toNat = r) : PE X (.BinOp (.Constant (.int a) j1 p1) .Pow (.Constant (.int b) j2 p2) pos) (tC (.int r)) :=
  ⟨fun pins s σ H Q I q => (pe_op op_pow pe_int pe_int).run pins s σ H Q I ⟨a, b, rfl, rfl, h, by subst e; exact q⟩⟩
theorem call_int' : CallR X (.type "int") rInt := fun pins s σ H xs us Q I r h => call_int1 pins s σ H xs us Q I r (.inl h)
theorem call_intB : CallR X (.type "int") rIntB := fun pins s σ H xs us Q I r h => call_int1 pins s σ H xs us Q I r (.inr h)
theorem call_abs' : CallR X (.builtin "abs") rAbs := call_abs
theorem call_max' (hc : X.calm = true) : CallR X (.builtin "max") rMax := call_max2 hc
theorem call_min' (hc : X.calm = true) : CallR X (.builtin "min") rMin := call_min2 hc
theorem call_len' : CallR X (.builtin "len") (rLen X.K) := call_len_seq
theorem call_list' : CallR X (.type "list") (rList X.K) := call_list_of
end
/-! isinstance, by the built-in kinds -/
theorem kit_int_int : kitB "int" "int" = some true := by decide +kernel
theorem kit_int_bool : kitB "int" "bool" = some false := by decide +kernel
theorem kit_int_tuple : kitB "int" "tuple" = some false := by decide +kernel
theorem kit_int_str : kitB "int" "str" = some false := by decide +kernel
theorem kit_int_list : kitB "int" "list" = some false := by decide +kernel
theorem kit_int_dict : kitB "int" "dict" = some false := by decide +kernel
theorem kit_bool_int : kitB "bool" "int" = some true := by decide +kernel
theorem kit_bool_bool : kitB "bool" "bool" = some true := by decide +kernel
theorem kit_bool_tuple : kitB "bool" "tuple" = some false := by decide +kernel
theorem kit_bool_str : kitB "bool" "str" = some false := by decide +kernel
theorem kit_bool_list : kitB "bool" "list" = some false := by decide +kernel
theorem kit_bool_dict : kitB "bool" "dict" = some false := by decide +kernel
theorem kit_tuple_int : kitB "tuple" "int" = some false := by decide +kernel
theorem kit_tuple_bool : kitB "tuple" "bool" = some false := by decide +kernel
theorem kit_tuple_tuple : kitB "tuple" "tuple" = some true := by decide +kernel
theorem kit_tuple_str : kitB "tuple" "str" = some false := by decide +kernel
theorem kit_tuple_list : kitB "tuple" "list" = some false := by decide +kernel
theorem kit_tuple_dict : kitB "tuple" "dict" = some false := by decide +kernel
theorem kit_str_int : kitB "str" "int" = some false := by decide +kernel
theorem kit_str_bool : kitB "str" "bool" = some false := by decide +kernel
theorem kit_str_tuple : kitB "str" "tuple" = some false := by decide +kernel
theorem kit_str_str : kitB "str" "str" = some true := by decide +kernel
theorem kit_str_list : kitB "str" "list" = some false := by decide +kernel
theorem kit_str_dict : kitB "str" "dict" = some false := by decide +kernel
theorem kit_list_int : kitB "list" "int" = some false := by decide +kernel
theorem kit_list_bool : kitB "list" "bool" = some false := by decide +kernel
theorem kit_list_tuple : kitB "list" "tuple" = some false := by decide +kernel
theorem kit_list_str : kitB "list" "str" = some false := by decide +kernel
theorem kit_list_list : kitB "list" "list" = some true := by decide +kernel
theorem kit_list_dict : kitB "list" "dict" = some false := by decide +kernel
theorem kit_NoneType_int : kitB "NoneType" "int" = some false := by decide +kernel
theorem kit_NoneType_bool : kitB "NoneType" "bool" = some false := by decide +kernel
theorem kit_NoneType_tuple : kitB "NoneType" "tuple" = some false := by decide +kernel
theorem kit_NoneType_str : kitB "NoneType" "str" = some false := by decide +kernel
theorem kit_NoneType_list : kitB "NoneType" "list" = some false := by decide +kernel
theorem kit_NoneType_dict : kitB "NoneType" "dict" = some false := by decide +kernel
theorem kit_dict_int : kitB "dict" "int" = some false := by decide +kernel
theorem kit_dict_bool : kitB "dict" "bool" = some false := by decide +kernel
theorem kit_dict_tuple : kitB "dict" "tuple" = some false := by decide +kernel
theorem kit_dict_str : kitB "dict" "str" = some false := by decide +kernel
theorem kit_dict_list : kitB "dict" "list" = some false := by decide +kernel
theorem kit_dict_dict : kitB "dict" "dict" = some true := by decide +kernel

/-! defs with defaults -/
structure DefInD (K : PySem.W.Frag) (mg : Str → Option Value) (x : Str) (st : Stmt) (dvs : List V) : Prop where
  ex : ∃ (f : Addr) (fd : FuncData), FunD K x x (defArgs st) (defBody st) (defScope st) dvs [] f fd ∧ mg x = some (.ref f)
structure HasD (P : Program) (w : World) (K : PySem.W.Frag) (mg : Str → Option Value) (base : Heap) (k : Nat) (x : Str) (ps : List Str) (dvs : List V) (sp : Sp) : Prop where
  ex : ∃ (f : Addr) (fd : FuncData) (ds : List Value), FnOk P w K mg base CX0 k f fd ps sp ∧ mg x = some (.ref f) ∧ PySem.W.keepIn K (.ref f) = true ∧ Vals dvs ds ∧ Binds K fd ps ds
section
variable {P : Program} {w : World} {K : PySem.W.Frag} {mg : Str → Option Value} {base : Heap}
/-- the def's promise; its calls with n values written, the defaults behind the first j filling up -/
theorem hasD_of {x : Str} {st : Stmt} {N ps : List Str} {k : Nat} {sp : Sp} {dvs : List V} (D : DefInD K mg x st dvs) (S : FnScope N ps (defScope st)) (n j : Nat) (hd : dvs ≠ []) (hn : n + (dvs.length - j) = ps.length)
    (hb : ∀ (T : Addr) (kV doc pm : Value) (an : Option Addr) (cdv ct : Value) (us its : List Value), us.length = n → its.length = dvs.length →
      ∃ k, bindArgs (PySem.W.fnOf x x (defArgs st) (defBody st) (defScope st) (.ref T) kV doc pm an cdv ct) ⟨us, []⟩ = seqItems? (.ref T) >>= k ∧ k (some its.toArray) = pure (ps.zip (us ++ its.drop j)))
    (len : ∀ vs H Q E, sp vs H Q E → vs.length = ps.length)
    (hbody : ∀ (f : Addr) (cdv : Value) (A : Around) (outer : List Env) (s : Shared) (H : Hp) (vs : List V) (Q : VK) (E : XK), Room k (A.deeper (envOfC x (defScope st) s.heap.objs.size f cdv)) → sp vs H Q E →
      ∃ t, PSs (bx P w K mg base N x st f cdv A outer s H E) (defBody st) t ∧ t { nx := fun _ H' => Q .non H', rt := Q } (start N vs) H) : HasD P w K mg base (k + 1) x ps (dvs.drop j) sp := by
  obtain ⟨f, fd, F, m⟩ := D.ex
  obtain ⟨ds, r, b⟩ := F.binds1 n j hd hn hb
  refine ⟨f, fd, ds, F.ok S len fun cdv A outer s H vs Q E hr h => ?_, m, F.kp, r, b⟩
  obtain ⟨t, ht, q⟩ := hbody f cdv A outer s H vs Q E hr h
  exact ⟨t, ht.nox, q⟩
end
theorem pe_hD {X : Cx} {k : Nat} {x : Str} {ps : List Str} {dvs : List V} {sp : Sp} {e : Expr} {es : List Expr} {t : TA} {p pos : Pos} (h : HasD X.prog X.w X.K X.mg X.base k x ps dvs sp) (hr : Room k X.A) (ha : PA X (e :: es) t) (hg : Gl X x := by rfl)
    (hdb : (x == ("__debug__" : Str)) = false := by decide) (he : starEach (e :: es) X.env = (false, eval e X.env) :: starEach es X.env := by rfl) (hpl : (backTo pos (starEach es X.env)).any (·.1) = false := by rfl) :
    PE X (.Call (.Name x p) (e :: es) [] pos) (tCall sp dvs E0 t) := by
  obtain ⟨f, fd, ds, a, b, c, r, d⟩ := h.ex
  exact pe_call a hr hg b c d r pass0 ha hdb he hpl
theorem g_callD {sp : Sp} {dvs : List V} {E : XK} {ta : TA} {σ : L2.St} {H : Hp} {Q : VK} (h : ta σ H fun vs H1 => sp (vs ++ dvs) H1 Q E) : tCall sp dvs E ta σ H Q := h
end Fl

set_option Elab.async false
set_option linter.all false
set_option maxRecDepth 100000
set_option maxHeartbeats 4000000
set_option exponentiation.threshold 20000
/-! fractions: the mathematics, and what the helpers promise -/
namespace Fl
open PySem PySem.Spec PyProof.Rows L2

def gg (p q : Int) : Int := ((Nat.gcd p.natAbs q.natAbs : Nat) : Int)
def rp (p q : Int) : Int := if q < 0 then -(p / gg p q) else p / gg p q
def rq (p q : Int) : Int := if q < 0 then -(q / gg p q) else q / gg p q
theorem gg_pos {p q : Int} (h : q ≠ 0) : 0 < gg p q := by
  have : 0 < Nat.gcd p.natAbs q.natAbs := Nat.gcd_pos_of_pos_right _ (by omega)
  unfold gg; omega
theorem gg_dvd_l (p q : Int) : gg p q ∣ p := by
  unfold gg
  exact Int.ofNat_dvd_left.mpr (Nat.gcd_dvd_left _ _)
theorem gg_dvd_r (p q : Int) : gg p q ∣ q := by
  unfold gg
  exact Int.ofNat_dvd_left.mpr (Nat.gcd_dvd_right _ _)
theorem abs_div_le {p g : Int} (hg : 0 < g) : (p / g).natAbs ≤ p.natAbs := by
  have h := Int.natAbs_ediv_le_natAbs p g
  exact h
theorem fdiv_neg_exact {p g : Int} (hg : 0 < g) (hd : g ∣ p) : Int.fdiv p (-g) = -(p / g) := by
  obtain ⟨k, rfl⟩ := hd
  have h1 : g * k / g = k := Int.mul_ediv_cancel_left k (by omega)
  rw [h1]
  have h2 : g * k = (-g) * (-k) := by rw [Int.neg_mul_neg]
  rw [h2]
  exact Int.mul_fdiv_cancel_left (-k) (by omega)
theorem fdiv_pos_exact {p g : Int} (hg : 0 < g) : Int.fdiv p g = p / g := Int.fdiv_eq_ediv_of_nonneg p (by omega)
theorem rp_abs (p q : Int) (h : q ≠ 0) : (rp p q).natAbs ≤ p.natAbs := by
  have := abs_div_le (p := p) (gg_pos (p := p) h)
  unfold rp
  split <;> omega
theorem rq_abs (p q : Int) (h : q ≠ 0) : (rq p q).natAbs ≤ q.natAbs := by
  have := abs_div_le (p := q) (gg_pos (p := p) h)
  unfold rq
  split <;> omega
theorem rq_pos (p q : Int) (h : q ≠ 0) : 0 < rq p q := by
  have hg := gg_pos (p := p) h
  obtain ⟨k, hk⟩ := gg_dvd_r p q
  have e : q / gg p q = k := Int.ediv_eq_of_eq_mul_right (by omega) hk
  unfold rq
  rw [e]
  by_cases hq : q < 0
  · rw [if_pos hq]
    have : k < 0 := by
      rcases (by omega : k < 0 ∨ 0 ≤ k) with h1 | h1
      · exact h1
      · have : 0 ≤ gg p q * k := Int.mul_nonneg (by omega) h1
        omega
    omega
  · rw [if_neg hq]
    rcases (by omega : 0 < k ∨ k ≤ 0) with h1 | h1
    · exact h1
    · have h2 : gg p q * k ≤ 0 := Int.mul_nonpos_of_nonneg_of_nonpos (by omega) h1
      omega
theorem rp_mul (p q : Int) (h : q ≠ 0) : rp p q * q = p * rq p q := by
  have hg := gg_pos (p := p) h
  obtain ⟨k, hk⟩ := gg_dvd_r p q
  obtain ⟨l, hl⟩ := gg_dvd_l p q
  have e : q / gg p q = k := Int.ediv_eq_of_eq_mul_right (by omega) hk
  have e2 : p / gg p q = l := Int.ediv_eq_of_eq_mul_right (by omega) hl
  have key : l * q = p * k := by
    generalize gg p q = g at hk hl
    subst hk hl
    rw [Int.mul_comm g l, Int.mul_assoc]
  unfold rp rq
  rw [e, e2]
  split
  · rw [Int.neg_mul, key, Int.mul_neg]
  · exact key

/-! the loop of Euclid -/
theorem euclid_step {m n : Nat} (hn : 0 < n) : Nat.gcd n (m % n) = Nat.gcd m n := by
  rw [Nat.gcd_comm n (m % n), Nat.gcd_comm m n]
  exact (Nat.gcd_rec n m).symm
structure Eu (g B i m n : Nat) : Prop where
  gcd : Nat.gcd m n = g
  lt : (i = 0 ∧ m * n ≤ B) ∨ n < m
  le : m * n * 2 ^ i ≤ 2 * B
theorem Eu.start {m n B : Nat} (h : m * n ≤ B) : Eu (Nat.gcd m n) B 0 m n := ⟨rfl, .inl ⟨rfl, h⟩, by simp; omega⟩
theorem Eu.step {g B i m n : Nat} (h : Eu g B i m n) (hn : 0 < n) : Eu g B (i + 1) n (m % n) := by
  refine ⟨(euclid_step hn).trans h.gcd, .inr (Nat.mod_lt _ hn), ?_⟩
  have hle := h.le
  rcases h.lt with e | e
  · obtain ⟨e, e'⟩ := e
    subst e
    have h1 : m % n ≤ m := Nat.mod_le _ _
    have h2 : n * (m % n) ≤ n * m := Nat.mul_le_mul_left _ h1
    have h3 : n * m = m * n := Nat.mul_comm _ _
    rw [Nat.zero_add, Nat.pow_one]
    omega
  · have h1 : 2 * (m % n) ≤ m := by
      have q1 := Nat.div_add_mod m n
      have q2 : m % n < n := Nat.mod_lt _ hn
      have q3 : 1 ≤ m / n := (Nat.le_div_iff_mul_le hn).mpr (by omega)
      have q4 : n * 1 ≤ n * (m / n) := Nat.mul_le_mul_left _ q3
      omega
    have h2 : n * (m % n) * 2 ^ (i + 1) = n * (2 * (m % n)) * 2 ^ i := by
      rw [Nat.pow_succ]
      simp only [Nat.mul_assoc, Nat.mul_comm, Nat.mul_left_comm]
    have h3 : n * (2 * (m % n)) ≤ n * m := Nat.mul_le_mul_left _ h1
    have h4 : n * (2 * (m % n)) * 2 ^ i ≤ n * m * 2 ^ i := Nat.mul_le_mul_right _ h3
    rw [h2, Nat.mul_comm n m] at *
    omega
theorem Eu.fin {g B m n : Nat} (h : Eu g B 5000 m n) (hB : B < 2 ^ 4990) : m = g := by
  have h0 : n = 0 := by
    rcases Nat.eq_zero_or_pos n with e | e
    · exact e
    · exfalso
      have hm : n < m := by
        rcases h.lt with q | q
        · cases q.1
        · exact q
      have h1 : 1 * 1 ≤ m * n := Nat.mul_le_mul (by omega) e
      have h2 : 1 * 2 ^ 5000 ≤ m * n * 2 ^ 5000 := Nat.mul_le_mul_right _ (by omega)
      have h3 := h.le
      have h4 : 2 * 2 ^ 4990 ≤ 1 * 2 ^ 5000 := by decide +kernel
      omega
  have := h.gcd
  rw [h0, Nat.gcd_zero_right] at this
  exact this
theorem Eu.done {g B i m : Nat} (h : Eu g B i m 0) : m = g := by
  have := h.gcd
  rw [Nat.gcd_zero_right] at this
  exact this

/-! sizes -/
theorem mulW {i j : Int} (hi : i.natAbs < 2 ^ 4000) (hj : j.natAbs < 2 ^ 4000) : CMulW i j := wide_mul hi hj (by decide) (by decide) (by decide)
theorem divW {i j : Int} (h : 0 < j) (hj : j.natAbs < 2 ^ 4000) : CDivW i j := wide_div h hj (by decide) (by decide)
/-- // by a divisor of either sign -/
def CDivS (_ j : Int) : Prop := j ≠ 0 ∧ j.natAbs.log2 < 9000
theorem op_fdivS {X : Cx} : OpR X (binaryOp .FloorDiv) (rI CDivS fun i j => .int (i.fdiv j)) := opI fun i j _ _ _ _ _ hc q =>
  floordiv_int hc.1 q (.inl (PyProof.noPylong_of_log2 hc.2))
theorem divS {i j : Int} (h : j ≠ 0) (hj : j.natAbs < 2 ^ 4000) : CDivS i j := ⟨h, Nat.lt_of_lt_of_le (PySem.Flt.log2_lt_of (by decide) hj) (by decide)⟩

/-! loops -/
section
variable {σ : L2.St} {H : Hp} {te : TE} {D : Ends} {g : TG} {tb : TS}
theorem g_forR (n : Int) (Pv : Nat → L2.St → Hp → Prop) (h : te σ H fun x H1 => x = .int n ∧ -(2 ^ 62) ≤ n ∧ n < 2 ^ 62 ∧ Pv 0 σ H1)
    (hs : ∀ (i : Nat) σ' H', (i : Int) < n → Pv i σ' H' → g (.int (i : Int)) σ' H' fun σ2 H2 => tb { D with nx := Pv (i + 1), ct := Pv (i + 1), bk := D.nx } σ2 H2)
    (hd : ∀ σ' H', Pv n.toNat σ' H' → D.nx σ' H') (mono : ∀ Q Q' : VK, (∀ x H1, Q x H1 → Q' x H1) → te σ H Q → te σ H Q') : tFor (iRng1 (tCons te tNil)) g tb D σ H := by
  refine mono _ _ (fun x H1 q => ?_) h
  obtain ⟨rfl, h1, h2, p⟩ := q
  show ∃ j : Int, [V.int n] = [V.int j] ∧ _
  refine ⟨n, rfl, h1, h2, for_range Pv p (fun i σ' H' hi p' => ?_) hd⟩
  have e0 : (0 : Int) + (i : Int) = (i : Int) := Int.zero_add _
  rw [e0]
  exact hs i σ' H' (by omega) p'
end

/-! promises -/
/-- the frame: what stood stands -/
def spGcd : Sp := fun vs H Q _ => ∃ (m n : Nat), vs = [.int (m : Int), .int (n : Int)] ∧ m * n < 2 ^ 4990 ∧ Q (.int ((Nat.gcd m n : Nat) : Int)) H
def spRat : Sp := fun vs H Q _ => ∃ (p q : Int), vs = [.int p, .int q] ∧ q ≠ 0 ∧ p.natAbs < 2 ^ 2000 ∧ q.natAbs < 2 ^ 2000 ∧ ∀ t, H t = none → Q (.ref t) (upd H t (.tup [.int (rp p q), .int (rq p q)]))
/-- a fraction stands at a -/
def FrAt (K : PySem.W.Frag) (H : Hp) (a : Addr) (p q : Int) : Prop := SqT K H a [.int p, .int q]
theorem rat_app {p q : Int} {H : Hp} {Q : VK} {E : XK} (h : q ≠ 0) (h1 : p.natAbs < 2 ^ 2000) (h2 : q.natAbs < 2 ^ 2000) (k : ∀ t, H t = none → Q (.ref t) (upd H t (.tup [.int (rp p q), .int (rq p q)]))) : spRat [.int p, .int q] H Q E :=
  ⟨p, q, rfl, h, h1, h2, k⟩
theorem draw_app {K : PySem.W.Frag} {d : Addr} {m : Int} {H : Hp} {Q : VK} {E : XK} (h : DeckAt K H d) (h1 : 0 < m) (h2 : m < 10 ^ 62) (k : ∀ v H', 0 ≤ v → v < m → DeckAt K H' d → Ex1 d H H' → Q (.int v) H') : spDraw K [.ref d, .int m] H Q E :=
  ⟨d, m, rfl, h, h1, h2, k⟩
theorem deck_app {K : PySem.W.Frag} {a : Addr} {ns : List Int} {H : Hp} {Q : VK} {E : XK} (h : SqL K H a (ns.map V.int)) (k : ∀ d H', H d = none → DeckAt K H' d → Same H H' → Q (.ref d) H') : spDeck K [.ref a] H Q E :=
  ⟨a, ns, rfl, h, k⟩
theorem DeckAt.ne {K : PySem.W.Frag} {H : Hp} {d p : Addr} (h : DeckAt K H d) (hp : H p = none) : p ≠ d := by
  obtain ⟨s, ns, a, b, c, h1, _⟩ := h
  exact fun e => by rw [e, h1] at hp; cases hp
theorem Same.t {K : PySem.W.Frag} {H H' : Hp} {a : Addr} {xs : List V} (e : Same H H') (h : SqT K H a xs) : SqT K H' a xs := by
  rcases h with (h | ⟨o, h⟩) | h
  · exact .inl (.inl (e _ _ h))
  · exact .inl (.inr ⟨o, e _ _ h⟩)
  · exact .inr h

theorem at_int {ns : List Int} {i : Int} (h0 : 0 ≤ i) (h : i < ns.length) : ∃ n, atI (ns.map V.int) i = some (.int n) := by
  obtain ⟨k, rfl⟩ : ∃ k : Nat, i = (k : Int) := ⟨i.toNat, by omega⟩
  have hk : k < ns.length := by omega
  refine ⟨ns[k], atI_nat ?_⟩
  rw [List.getElem?_map, List.getElem?_eq_getElem hk]
  rfl

theorem natAbs_ediv_of_dvd {p g : Int} (hg : 0 < g) (hd : g ∣ p) : (p / g).natAbs = p.natAbs / g.natAbs := by
  obtain ⟨k, rfl⟩ := hd
  rw [Int.mul_ediv_cancel_left k (by omega), Int.natAbs_mul, Nat.mul_div_cancel_left _ (by omega)]
theorem rat_cop (p q : Int) (h : q ≠ 0) : Nat.gcd (rp p q).natAbs (rq p q).natAbs = 1 := by
  have hg := gg_pos (p := p) h
  have e : (gg p q).natAbs = Nat.gcd p.natAbs q.natAbs := rfl
  have h0 : 0 < Nat.gcd p.natAbs q.natAbs := by omega
  have key : Nat.gcd (p / gg p q).natAbs (q / gg p q).natAbs = 1 := by
    rw [natAbs_ediv_of_dvd hg (gg_dvd_l p q), natAbs_ediv_of_dvd hg (gg_dvd_r p q), e]
    exact Nat.gcd_div_gcd_div_gcd_of_pos_right (by omega)
  unfold rp rq
  split
  · rw [Int.natAbs_neg, Int.natAbs_neg]
    exact key
  · exact key
/-- a drawn fraction -/
structure Fra (n e : Int) : Prop where
  pos : 0 < e
  bn : n.natAbs ≤ 10 ^ 12
  be : e.natAbs ≤ 10 ^ 12
  cop : Nat.gcd n.natAbs e.natAbs = 1
theorem big12 {x : Int} (h : x.natAbs ≤ 10 ^ 12) : x.natAbs < 2 ^ 2000 := by
  have : (10 : Nat) ^ 12 < 2 ^ 2000 := by decide +kernel
  omega
theorem big40 {x : Int} (h : x.natAbs < 2 ^ 2000) : x.natAbs < 2 ^ 4000 := by
  have : (2 : Nat) ^ 2000 < 2 ^ 4000 := by decide +kernel
  omega
theorem Fra.int {n : Int} (h : n.natAbs ≤ 10 ^ 12) : Fra n 1 := ⟨by decide, h, by decide, Nat.gcd_one_right _⟩
theorem Fra.rat {p q : Int} (h : q ≠ 0) (h1 : p.natAbs ≤ 10 ^ 12) (h2 : q.natAbs ≤ 10 ^ 12) : Fra (rp p q) (rq p q) :=
  ⟨rq_pos p q h, Nat.le_trans (rp_abs p q h) h1, Nat.le_trans (rq_abs p q h) h2, rat_cop p q h⟩
def spBig (K : PySem.W.Frag) : Sp := fun vs H Q _ => ∃ (d : Addr), vs = [.ref d] ∧ DeckAt K H d ∧ ∀ t H' n e, DeckAt K H' d → Ex1 d H H' → t ≠ d → SqT K H' t [.int n, .int e] → Fra n e → Q (.ref t) H'
theorem big_app {K : PySem.W.Frag} {d : Addr} {H : Hp} {Q : VK} {E : XK} (h : DeckAt K H d) (k : ∀ t H' n e, DeckAt K H' d → Ex1 d H H' → t ≠ d → SqT K H' t [.int n, .int e] → Fra n e → Q (.ref t) H') : spBig K [.ref d] H Q E := ⟨d, rfl, h, k⟩
def sg (x : Int) : Int := if 0 < x then 1 else if x < 0 then -1 else 0
theorem sg_neg (x : Int) : sg (-x) = -sg x := by
  unfold sg
  rcases (by omega : x < 0 ∨ x = 0 ∨ 0 < x) with h | h | h
  · rw [if_pos (by omega), if_neg (by omega), if_pos h]; rfl
  · subst h; rfl
  · rw [if_neg (by omega), if_pos (by omega), if_pos h]

def spCmp (K : PySem.W.Frag) : Sp := fun vs H Q _ => ∃ (a b : Addr) (n e m k : Int), vs = [.ref a, .ref b] ∧ SqT K H a [.int n, .int e] ∧ SqT K H b [.int m, .int k] ∧
  n.natAbs < 2 ^ 4000 ∧ e.natAbs < 2 ^ 4000 ∧ m.natAbs < 2 ^ 4000 ∧ k.natAbs < 2 ^ 4000 ∧ Q (.int (sg (n * k - m * e))) H
theorem cmp_app {K : PySem.W.Frag} {a b : Addr} {n e m k : Int} {H : Hp} {Q : VK} {E : XK} (h1 : SqT K H a [.int n, .int e]) (h2 : SqT K H b [.int m, .int k])
  (f1 : Fra n e) (f2 : Fra m k) (q : Q (.int (sg (n * k - m * e))) H) : spCmp K [.ref a, .ref b] H Q E :=
  ⟨a, b, n, e, m, k, rfl, h1, h2, big40 (big12 f1.bn), big40 (big12 f1.be), big40 (big12 f2.bn), big40 (big12 f2.be), q⟩
def spDown (K : PySem.W.Frag) : Sp := fun vs H Q _ => ∃ (a : Addr) (n e : Int), vs = [.ref a] ∧ SqT K H a [.int n, .int e] ∧ 0 < e ∧ e.natAbs < 2 ^ 4000 ∧ Q (.int (n / e)) H
def spNear (K : PySem.W.Frag) : Sp := fun vs H Q _ => ∃ (a : Addr) (n e : Int), vs = [.ref a] ∧ SqT K H a [.int n, .int e] ∧ 0 < e ∧ (2 * e).natAbs < 2 ^ 4000 ∧ Q (.int ((2 * n + e) / (2 * e))) H
theorem down_app {K : PySem.W.Frag} {a : Addr} {n e : Int} {H : Hp} {Q : VK} {E : XK} (h1 : SqT K H a [.int n, .int e]) (f1 : Fra n e) (q : Q (.int (n / e)) H) : spDown K [.ref a] H Q E := ⟨a, n, e, rfl, h1, f1.pos, big40 (big12 f1.be), q⟩
theorem near_app {K : PySem.W.Frag} {a : Addr} {n e : Int} {H : Hp} {Q : VK} {E : XK} (h1 : SqT K H a [.int n, .int e]) (f1 : Fra n e) (q : Q (.int ((2 * n + e) / (2 * e))) H) : spNear K [.ref a] H Q E :=
  ⟨a, n, e, rfl, h1, f1.pos, by
    have h2 := f1.be
    have h3 : (2 : Nat) * 10 ^ 12 < 2 ^ 4000 := by decide +kernel
    omega, q⟩
def spIsInt : Sp := fun vs H Q _ => ∃ (i : Int), vs = [.int i] ∧ Q (.bl true) H
theorem isint_app {i : Int} {H : Hp} {Q : VK} {E : XK} (q : Q (.bl true) H) : spIsInt [.int i] H Q E := ⟨i, rfl, q⟩
def spSameI : Sp := fun vs H Q _ => ∃ (i j : Int), vs = [.int i, .int j] ∧ Q (.bl (decide (i = j))) H
theorem sameI_app {i j : Int} {H : Hp} {Q : VK} {E : XK} (q : Q (.bl (decide (i = j))) H) : spSameI [.int i, .int j] H Q E := ⟨i, j, rfl, q⟩

theorem fra_app {p q : Int} {H : Hp} {Q : VK} {E : XK} (h : q ≠ 0) (h1 : p.natAbs ≤ 10 ^ 12) (h2 : q.natAbs ≤ 10 ^ 12) (k : ∀ t n e, H t = none → Fra n e → Q (.ref t) (upd H t (.tup [.int n, .int e]))) : spRat [.int p, .int q] H Q E :=
  rat_app h (big12 h1) (big12 h2) fun t ht => k t _ _ ht (Fra.rat h h1 h2)
theorem down2_app {K : PySem.W.Frag} {a : Addr} {n e : Int} {H : Hp} {Q : VK} {E : XK} (h1 : SqT K H a [.int n, .int e]) (f1 : Fra n e)
    (q : ∀ v, v.natAbs < 2 ^ 4000 → (v + 1).natAbs < 2 ^ 4000 → e.natAbs < 2 ^ 4000 → v * e ≤ n → n < (v + 1) * e → Q (.int v) H) : spDown K [.ref a] H Q E := by
  have hp := f1.pos
  have b1 := f1.bn
  have b2 := f1.be
  have big : (10 : Nat) ^ 12 + 1 < 2 ^ 4000 := by decide +kernel
  have b3 : (n / e).natAbs ≤ n.natAbs := Int.natAbs_ediv_le_natAbs n e
  refine down_app h1 f1 (q _ (by omega) (by omega) (by omega) ?_ ?_)
  · exact Int.ediv_mul_le n (by omega)
  · exact Int.lt_ediv_add_one_mul_self n hp
theorem near2_app {K : PySem.W.Frag} {a : Addr} {n e : Int} {H : Hp} {Q : VK} {E : XK} (h1 : SqT K H a [.int n, .int e]) (f1 : Fra n e)
    (q : ∀ v, (2 * v).natAbs < 2 ^ 4000 → e.natAbs < 2 ^ 4000 → 2 * v * e ≤ 2 * n + e → 2 * n - e < 2 * v * e → Q (.int v) H) : spNear K [.ref a] H Q E := by
  have hp := f1.pos
  have b1 := f1.bn
  have b2 := f1.be
  have big : (10 : Nat) ^ 14 < 2 ^ 4000 := by decide +kernel
  have b3 : ((2 * n + e) / (2 * e)).natAbs ≤ (2 * n + e).natAbs := Int.natAbs_ediv_le_natAbs _ _
  have c1 := Int.ediv_mul_le (2 * n + e) (b := 2 * e) (by omega)
  have c2 := Int.lt_ediv_add_one_mul_self (2 * n + e) (b := 2 * e) (by omega)
  generalize hv : (2 * n + e) / (2 * e) = v at *
  have e1 : v * (2 * e) = 2 * v * e := by rw [Int.mul_left_comm, Int.mul_assoc]
  have e2 : (v + 1) * (2 * e) = 2 * v * e + 2 * e := by rw [Int.add_mul, e1, Int.one_mul]
  refine near_app h1 f1 ?_
  rw [hv]
  exact q v (by omega) (by omega) (by omega) (by omega)

theorem sg_opp (x y : Int) : sg (x - y) = -sg (y - x) := by
  rw [← sg_neg]
  congr 1
  omega
theorem of_dec {p : Prop} [Decidable p] {Q : VK} {H : Hp} (h : p) (q : Q (.bl true) H) : Q (.bl (decide p)) H := by
  rw [decide_eq_true h]
  exact q
theorem DeckAt.ne' {K : PySem.W.Frag} {H : Hp} {d p : Addr} (hp : H p = none) (h : DeckAt K H d) : p ≠ d := h.ne hp
end Fl

set_option Elab.async false
set_option linter.all false
set_option maxRecDepth 100000
set_option maxHeartbeats 4000000
set_option exponentiation.threshold 20000
/-! fractions as numbers -/
namespace Fl
open PySem PySem.Spec PyProof.Rows L2

theorem gg_comm (p q : Int) : gg p q = ((Int.gcd q p : Nat) : Int) := by
  unfold gg Int.gcd
  rw [Nat.gcd_comm]
theorem rp_num {p q : Int} (h : q ≠ 0) : rp p q = (Rat.divInt p q).num := by
  rw [Rat.num_divInt, ← gg_comm]
  have hg := gg_pos (p := p) h
  obtain ⟨k, hk⟩ := gg_dvd_l p q
  have e : p / gg p q = k := Int.ediv_eq_of_eq_mul_right (by omega) hk
  unfold rp
  rw [e]
  split
  · rename_i hq
    rw [Int.sign_eq_neg_one_of_neg hq]
    refine (Int.ediv_eq_of_eq_mul_right (by omega) ?_).symm
    rw [Int.mul_neg, ← hk, Int.neg_mul, Int.one_mul]
  · rw [Int.sign_eq_one_of_pos (by omega), Int.one_mul, e]
theorem rq_den {p q : Int} (h : q ≠ 0) : rq p q = ((Rat.divInt p q).den : Int) := by
  rw [Rat.den_divInt, if_neg h]
  have hg := gg_pos (p := p) h
  obtain ⟨k, hk⟩ := gg_dvd_r p q
  have e : q / gg p q = k := Int.ediv_eq_of_eq_mul_right (by omega) hk
  have e2 : ((q.natAbs / Int.gcd q p : Nat) : Int) = (q.natAbs : Int) / gg p q := by
    rw [gg_comm]
    exact Int.natCast_ediv _ _
  rw [e2]
  unfold rq
  rw [e]
  split
  · rename_i hq
    refine (Int.ediv_eq_of_eq_mul_right (by omega) ?_).symm
    rw [Int.mul_neg, ← hk]
    omega
  · refine (Int.ediv_eq_of_eq_mul_right (by omega) ?_).symm
    rw [← hk]
    omega

/-- the fraction x stands at a -/
def RV (K : PySem.W.Frag) (H : Hp) (a : Addr) (x : Rat) : Prop := SqT K H a [.int x.num, .int (x.den : Int)]
theorem RV.ex1 {K : PySem.W.Frag} {d : Addr} {H H' : Hp} {a : Addr} {x : Rat} (e : Ex1 d H H') (n : a ≠ d) (h : RV K H a x) : RV K H' a x := Ex1.t e n h
theorem RV.same {K : PySem.W.Frag} {H H' : Hp} {a : Addr} {x : Rat} (e : Same H H') (h : RV K H a x) : RV K H' a x := Same.t e h
theorem RV.sq {K : PySem.W.Frag} {H : Hp} {a : Addr} {x : Rat} (h : RV K H a x) : SqT K H a [.int x.num, .int (x.den : Int)] := h
/-- of moderate size -/
structure Md (x : Rat) : Prop where
  n : x.num.natAbs < 2 ^ 900
  d : x.den < 2 ^ 900
structure Szq (k : Nat) (x : Rat) : Prop where
  n : x.num.natAbs < 2 ^ k
  d : x.den < 2 ^ k
theorem Szq.md {k : Nat} {x : Rat} (h : Szq k x) (hk : k ≤ 900) : Md x :=
  ⟨Nat.lt_of_lt_of_le h.n (Nat.pow_le_pow_right (by decide) hk), Nat.lt_of_lt_of_le h.d (Nat.pow_le_pow_right (by decide) hk)⟩
theorem szq_div {p q : Int} {k : Nat} (h : q ≠ 0) (h1 : p.natAbs < 2 ^ k) (h2 : q.natAbs < 2 ^ k) : Szq k (Rat.divInt p q) := by
  have e1 := rp_abs p q h
  have e2 := rq_abs p q h
  rw [rp_num h] at e1
  rw [rq_den h] at e2
  exact ⟨by omega, by omega⟩
theorem pw_add {a b j k : Nat} (ha : a < 2 ^ j) (hb : b < 2 ^ k) : a * b < 2 ^ (j + k) := by
  rw [Nat.pow_add]
  exact Nat.mul_lt_mul'' ha hb
theorem add_div (x y : Rat) : Rat.divInt (x.num * y.den + y.num * x.den) ((x.den : Int) * y.den) = x + y := by
  rw [Rat.add_def', ← Rat.divInt_ofNat, Int.natCast_mul]
theorem sub_div (x y : Rat) : Rat.divInt (x.num * y.den - y.num * x.den) ((x.den : Int) * y.den) = x - y := by
  rw [Rat.sub_def', ← Rat.divInt_ofNat, Int.natCast_mul]
theorem mul_div' (x y : Rat) : Rat.divInt (x.num * y.num) ((x.den : Int) * y.den) = x * y := by
  rw [Rat.mul_def', ← Rat.divInt_ofNat, Int.natCast_mul]
theorem div_div' (x y : Rat) : Rat.divInt (x.num * y.den) ((x.den : Int) * y.num) = x / y := by
  rw [Rat.div_def, Rat.inv_def]
  conv => rhs; rw [← Rat.num_divInt_den x]
  rw [Rat.divInt_mul_divInt]
theorem den0 (x : Rat) : (x.den : Int) ≠ 0 := by
  have := x.den_nz
  omega
theorem sz_cross {x y : Rat} {j k : Nat} (hx : Szq j x) (hy : Szq k y) : (x.num * y.den).natAbs < 2 ^ (j + k) ∧ (y.num * x.den).natAbs < 2 ^ (j + k) ∧ ((x.den : Int) * y.den).natAbs < 2 ^ (j + k) ∧ (x.num * y.num).natAbs < 2 ^ (j + k) ∧ ((x.den : Int) * y.num).natAbs < 2 ^ (j + k) := by
  simp only [Int.natAbs_mul, Int.natAbs_natCast]
  refine ⟨pw_add hx.n hy.d, ?_, pw_add hx.d hy.d, pw_add hx.n hy.n, pw_add hx.d hy.n⟩
  rw [Nat.mul_comm]
  exact pw_add hx.d hy.n
theorem Szq.add {x y : Rat} {j k : Nat} (hx : Szq j x) (hy : Szq k y) : Szq (j + k + 1) (x + y) := by
  obtain ⟨h1, h2, h3, h4, h5⟩ := sz_cross hx hy
  rw [← add_div]
  have e : 2 ^ (j + k + 1) = 2 * 2 ^ (j + k) := by rw [Nat.pow_succ, Nat.mul_comm]
  exact szq_div (Int.mul_ne_zero (den0 x) (den0 y)) (by omega) (by omega)
theorem Szq.sub {x y : Rat} {j k : Nat} (hx : Szq j x) (hy : Szq k y) : Szq (j + k + 1) (x - y) := by
  obtain ⟨h1, h2, h3, h4, h5⟩ := sz_cross hx hy
  rw [← sub_div]
  have e : 2 ^ (j + k + 1) = 2 * 2 ^ (j + k) := by rw [Nat.pow_succ, Nat.mul_comm]
  exact szq_div (Int.mul_ne_zero (den0 x) (den0 y)) (by omega) (by omega)
theorem Szq.mul {x y : Rat} {j k : Nat} (hx : Szq j x) (hy : Szq k y) : Szq (j + k) (x * y) := by
  obtain ⟨h1, h2, h3, h4, h5⟩ := sz_cross hx hy
  rw [← mul_div']
  exact szq_div (Int.mul_ne_zero (den0 x) (den0 y)) (by omega) (by omega)
theorem num0 {x : Rat} (h : x ≠ 0) : x.num ≠ 0 := fun e => h (Rat.num_eq_zero.mp e)
theorem Szq.div {x y : Rat} {j k : Nat} (hx : Szq j x) (hy : Szq k y) (h : y ≠ 0) : Szq (j + k) (x / y) := by
  obtain ⟨h1, h2, h3, h4, h5⟩ := sz_cross hx hy
  rw [← div_div']
  exact szq_div (Int.mul_ne_zero (den0 x) (num0 h)) (by omega) (by omega)
theorem Fra.rat_of {n e : Int} (h : Fra n e) : ∃ x : Rat, x.num = n ∧ (x.den : Int) = e ∧ Szq 41 x := by
  have hp := h.pos
  obtain ⟨k, rfl⟩ : ∃ k : Nat, e = (k : Int) := ⟨e.toNat, by omega⟩
  refine ⟨⟨n, k, by omega, h.cop⟩, rfl, rfl, ?_, ?_⟩
  · have := h.bn
    show n.natAbs < _
    have e : (10 : Nat) ^ 12 < 2 ^ 41 := by decide
    omega
  · have := h.be
    show k < _
    have e : (10 : Nat) ^ 12 < 2 ^ 41 := by decide
    omega

/-! promises -/
def spRatP : Sp := spRat
def spBin (K : PySem.W.Frag) (f : Rat → Rat → Rat) (pre : Rat → Rat → Prop) : Sp := fun vs H Q _ => ∃ (a b : Addr) (x y : Rat), vs = [.ref a, .ref b] ∧ RV K H a x ∧ RV K H b y ∧ Md x ∧ Md y ∧ pre x y ∧
  ∀ t H', H t = none → Same H H' → RV K H' t (f x y) → Q (.ref t) H'
theorem bin_app {K : PySem.W.Frag} {f : Rat → Rat → Rat} {pre : Rat → Rat → Prop} {a b : Addr} {x y : Rat} {H : Hp} {Q : VK} {E : XK} (h1 : RV K H a x) (h2 : RV K H b y) (m1 : Md x) (m2 : Md y) (hp : pre x y)
  (k : ∀ t H', H t = none → Same H H' → RV K H' t (f x y) → Q (.ref t) H') : spBin K f pre [.ref a, .ref b] H Q E := ⟨a, b, x, y, rfl, h1, h2, m1, m2, hp, k⟩
def cq (x y : Rat) : Int := if x < y then -1 else if y < x then 1 else 0
def spCq (K : PySem.W.Frag) : Sp := fun vs H Q _ => ∃ (a b : Addr) (x y : Rat), vs = [.ref a, .ref b] ∧ RV K H a x ∧ RV K H b y ∧ Md x ∧ Md y ∧ Q (.int (cq x y)) H
theorem cq_app {K : PySem.W.Frag} {a b : Addr} {x y : Rat} {H : Hp} {Q : VK} {E : XK} (h1 : RV K H a x) (h2 : RV K H b y) (m1 : Md x) (m2 : Md y) (q : Q (.int (cq x y)) H) : spCq K [.ref a, .ref b] H Q E := ⟨a, b, x, y, rfl, h1, h2, m1, m2, q⟩
theorem cq_add (x y z : Rat) : cq (x + z) (y + z) = cq x y := by
  unfold cq
  simp only [Rat.add_lt_add_right]
def nr (x : Rat) : Int := (2 * x.num + x.den) / (2 * x.den)
def spNr (K : PySem.W.Frag) : Sp := fun vs H Q _ => ∃ (a : Addr) (x : Rat), vs = [.ref a] ∧ RV K H a x ∧ Md x ∧ Q (.int (nr x)) H
theorem nr_app {K : PySem.W.Frag} {a : Addr} {x : Rat} {H : Hp} {Q : VK} {E : XK} (h1 : RV K H a x) (m1 : Md x) (q : Q (.int (nr x)) H) : spNr K [.ref a] H Q E := ⟨a, x, rfl, h1, m1, q⟩
def spRatq (K : PySem.W.Frag) : Sp := fun vs H Q _ => ∃ (p q : Int), vs = [.int p, .int q] ∧ q ≠ 0 ∧ p.natAbs < 2 ^ 1900 ∧ q.natAbs < 2 ^ 1900 ∧ ∀ t H', H t = none → Same H H' → RV K H' t (Rat.divInt p q) → Q (.ref t) H'
theorem ratq_app {K : PySem.W.Frag} {p q : Int} {H : Hp} {Q : VK} {E : XK} (h : q ≠ 0) (h1 : p.natAbs < 2 ^ 1900) (h2 : q.natAbs < 2 ^ 1900) (k : ∀ t H', H t = none → Same H H' → RV K H' t (Rat.divInt p q) → Q (.ref t) H') : spRatq K [.int p, .int q] H Q E := ⟨p, q, rfl, h, h1, h2, k⟩
theorem nr_add (x : Rat) (w : Int) : nr (x + Rat.divInt w 1) = nr x + w := by
  generalize hy : x + Rat.divInt w 1 = y
  have key : y.num * x.den = (x.num + w * x.den) * y.den := by
    have e : Rat.divInt (x.num + w * x.den) x.den = y := by
      rw [← hy]
      conv => rhs; lhs; rw [← Rat.num_divInt_den x]
      rw [Rat.divInt_add_divInt _ _ (den0 x) (by decide), Int.mul_one, Int.mul_one]
    rw [← Rat.num_divInt_den y] at e
    exact ((Rat.divInt_eq_divInt_iff (den0 x) (den0 y)).mp e).symm
  unfold nr
  have hx := x.den_pos
  have hyp := y.den_pos
  generalize x.num = n at *
  generalize (y.num) = m at *
  have hx' : (0 : Int) < x.den := by omega
  have hy' : (0 : Int) < y.den := by omega
  generalize (x.den : Int) = e at *
  generalize (y.den : Int) = k at *
  have c1 := Int.ediv_mul_le (2 * n + e) (b := 2 * e) (by omega)
  have c2 := Int.lt_ediv_add_one_mul_self (2 * n + e) (b := 2 * e) (by omega)
  generalize (2 * n + e) / (2 * e) = v at *
  have g1 : (v + w) * (2 * k) ≤ 2 * m + k := by
    refine Int.le_of_mul_le_mul_right (a := e) ?_ hx'
    have h1 : v * (2 * e) * k ≤ (2 * n + e) * k := Int.mul_le_mul_of_nonneg_right c1 (by omega)
    have e1 : (v + w) * (2 * k) * e = v * (2 * e) * k + 2 * (w * e * k) := by grind
    have e2 : (2 * m + k) * e = 2 * (m * e) + k * e := by grind
    rw [e1, e2, key]
    have e3 : 2 * ((n + w * e) * k) + k * e = (2 * n + e) * k + 2 * (w * e * k) := by grind
    rw [e3]
    omega
  have g2 : 2 * m + k < (v + w + 1) * (2 * k) := by
    refine Int.lt_of_mul_lt_mul_right (a := e) ?_ (by omega)
    have h1 : (2 * n + e) * k < (v + 1) * (2 * e) * k := Int.mul_lt_mul_of_pos_right c2 hy'
    have e1 : (v + w + 1) * (2 * k) * e = (v + 1) * (2 * e) * k + 2 * (w * e * k) := by grind
    have e2 : (2 * m + k) * e = 2 * (m * e) + k * e := by grind
    rw [e1, e2, key]
    have e3 : 2 * ((n + w * e) * k) + k * e = (2 * n + e) * k + 2 * (w * e * k) := by grind
    rw [e3]
    omega
  have f1 : v + w ≤ (2 * m + k) / (2 * k) := (Int.le_ediv_iff_mul_le (by omega)).mpr g1
  have f2 : (2 * m + k) / (2 * k) < v + w + 1 := (Int.ediv_lt_iff_lt_mul (by omega)).mpr g2
  omega
/-- != of two fractions that are the same number -/
theorem ne_app {K : PySem.W.Frag} {a b : Addr} {x y : Rat} {H : Hp} {Q : VK} (h1 : RV K H a x) (h2 : RV K H b y) (e : x = y) (q : Q (.bl false) H) : rNeD K (.ref a) (.ref b) H Q := by
  subst e
  have d1 : ∀ {a : Addr}, RV K H a x → Dp K H (.ref a) (.tuple [.int x.num, .int x.den]) := fun h => .tup h (.cons (.int _) (.cons (.int _) .nil))
  refine ⟨_, _, d1 h1, d1 h2, rfl, rfl, ?_⟩
  have e2 : PyData.eqv (.tuple [.int x.num, .int x.den]) (.tuple [.int x.num, .int x.den]) = true := SeqAt.eqv_refl _ rfl
  rw [e2]
  exact q
theorem g_neD {r : R2} {x y : V} {H : Hp} {Q : VK} (h : r x y H Q) : r x y H Q := h

theorem Md.big {x : Rat} (h : Md x) : x.num.natAbs < 2 ^ 4000 ∧ ((x.den : Int)).natAbs < 2 ^ 4000 := by
  have h1 := h.n
  have h2 := h.d
  have e : (2 : Nat) ^ 900 < 2 ^ 4000 := by decide +kernel
  constructor <;> omega
theorem md_cross {x y : Rat} (hx : Md x) (hy : Md y) : (x.num * y.den + y.num * x.den).natAbs < 2 ^ 1900 ∧ (x.num * y.den - y.num * x.den).natAbs < 2 ^ 1900 ∧ ((x.den : Int) * y.den).natAbs < 2 ^ 1900 ∧ (x.num * y.num).natAbs < 2 ^ 1900 ∧ ((x.den : Int) * y.num).natAbs < 2 ^ 1900 ∧ (x.num * y.den).natAbs < 2 ^ 1900 := by
  obtain ⟨h1, h2, h3, h4, h5⟩ := sz_cross (j := 900) (k := 900) ⟨hx.n, hx.d⟩ ⟨hy.n, hy.d⟩
  have e : 2 * 2 ^ (900 + 900) < (2 : Nat) ^ 1900 := by decide +kernel
  refine ⟨?_, ?_, ?_, ?_, ?_, ?_⟩ <;> omega

theorem bigq_app {K : PySem.W.Frag} {d : Addr} {H : Hp} {Q : VK} {E : XK} (h : DeckAt K H d) (k : ∀ t H' (x : Rat), DeckAt K H' d → Ex1 d H H' → t ≠ d → RV K H' t x → Szq 41 x → Q (.ref t) H') : spBig K [.ref d] H Q E := by
  refine big_app h fun t H' n e hD hE hn hS hF => ?_
  obtain ⟨x, rfl, rfl, hz⟩ := hF.rat_of
  exact k t H' x hD hE hn hS hz
theorem ne_of_num {x : Rat} (h : ¬ x.num = 0) : x ≠ 0 := fun e => h (by rw [e]; rfl)
end Fl

set_option Elab.async false
set_option linter.all false
set_option maxRecDepth 100000
set_option maxHeartbeats 4000000
set_option exponentiation.threshold 20000
namespace K07
open PySem PySem.Spec PyProof.Rows L2 Fl
-- facts of a place in the heap
local macro_rules | `(tactic| walk_at "fl.ne") => `(tactic| first
  | assumption
  | exact Ne.symm (by assumption)
  | ((with_reducible apply DeckAt.ne'); (focus assumption); walk_at "fl.deck"))
local macro_rules | `(tactic| walk_at "fl.look") => `(tactic| first
  | assumption
  | ((with_reducible show RV _ _ _ _); (with_reducible apply RV.ex1); (focus assumption); (focus walk_at "fl.ne"); walk_at "fl.look")
  | ((with_reducible show RV _ _ _ _); (with_reducible apply RV.same); (focus assumption); walk_at "fl.look")
  | ((with_reducible show RV _ _ _ _); (with_reducible apply RV.same); (focus exact Fl.Same.new (by assumption)); walk_at "fl.look")
  | (with_reducible exact SqL.of upd_same)
  | (with_reducible exact SqT.of upd_same)
  | ((with_reducible apply SqL.of); assumption)
  | ((with_reducible apply SqT.of); assumption)
  | ((with_reducible apply Ex1.l); (focus with_reducible exact Ex1.upd); (focus walk_at "fl.ne"); walk_at "fl.look")
  | ((with_reducible apply Ex1.t); (focus with_reducible exact Ex1.upd); (focus walk_at "fl.ne"); walk_at "fl.look")
  | ((with_reducible apply Same.seq); (focus exact Fl.Same.new (by assumption)); walk_at "fl.look")
  | ((with_reducible apply Fl.Same.t); (focus exact Fl.Same.new (by assumption)); walk_at "fl.look")
  | ((with_reducible apply Ex1.l); (focus assumption); (focus walk_at "fl.ne"); walk_at "fl.look")
  | ((with_reducible apply Ex1.t); (focus assumption); (focus walk_at "fl.ne"); walk_at "fl.look")
  | ((with_reducible apply Same.seq); (focus assumption); walk_at "fl.look")
  | ((with_reducible apply Fl.Same.t); (focus assumption); walk_at "fl.look"))
-- arithmetic that an operation asks
local macro_rules | `(tactic| walk_at "fl.side") => `(tactic| first
  | decide
  | assumption
  | omega
  | (simp only [List.length_cons, List.length_nil]; omega)
  | exact Or.inr (by decide)
  | (refine ⟨?_, ?_, ?_⟩ <;> decide)
  | exact Or.inl (by decide)
  | exact mulW (by first | assumption | omega) (by first | assumption | omega)
  | exact divW (by first | assumption | omega) (by first | assumption | omega)
  | exact divS (by first | assumption | omega) (by first | assumption | omega)
  | exact div62 (by first | assumption | decide | omega) (by first | assumption | decide | omega))
local macro_rules | `(tactic| walk_at "fl.kit") => `(tactic| first | exact kit_int_int | exact kit_int_bool | exact kit_int_tuple | exact kit_int_str | exact kit_int_list | exact kit_int_dict | exact kit_bool_int | exact kit_bool_bool | exact kit_bool_tuple | exact kit_bool_str | exact kit_bool_list | exact kit_bool_dict | exact kit_tuple_int | exact kit_tuple_bool | exact kit_tuple_tuple | exact kit_tuple_str | exact kit_tuple_list | exact kit_tuple_dict | exact kit_str_int | exact kit_str_bool | exact kit_str_tuple | exact kit_str_str | exact kit_str_list | exact kit_str_dict | exact kit_list_int | exact kit_list_bool | exact kit_list_tuple | exact kit_list_str | exact kit_list_list | exact kit_list_dict | exact kit_NoneType_int | exact kit_NoneType_bool | exact kit_NoneType_tuple | exact kit_NoneType_str | exact kit_NoneType_list | exact kit_NoneType_dict | exact kit_dict_int | exact kit_dict_bool | exact kit_dict_tuple | exact kit_dict_str | exact kit_dict_list | exact kit_dict_dict)
local macro_rules | `(tactic| walk_at "fl.ty") => `(tactic| first
  | exact .base (.int _)
  | exact .base (.bl _)
  | exact .base .non
  | exact .base (.str _)
  | exact .base (.tup upd_same)
  | exact .base (.lst upd_same)
  | (apply TyX.base; apply TyOf.tup; assumption)
  | (apply TyX.base; apply TyOf.lst; assumption))
local macro_rules | `(tactic| walk_at "fl.deck") => `(tactic| first
  | assumption
  | (refine DeckAt.same ?_ (Fl.Same.new (by assumption)); walk_at "fl.deck")
  | (refine DeckAt.same ?_ (by assumption); walk_at "fl.deck"))
local macro_rules | `(tactic| walk_at "fl.ex1") => `(tactic| first
  | assumption
  | exact Ex1.refl
  | exact Ex1.upd
  | (refine Ex1.trans ?_ Ex1.upd; walk_at "fl.ex1")
  | (refine Ex1.trans ?_ (Ex1.of (Fl.Same.new (by assumption))); walk_at "fl.ex1")
  | (refine Ex1.trans ?_ (by assumption); walk_at "fl.ex1")
  | (refine Ex1.trans ?_ (Ex1.of (by assumption)); walk_at "fl.ex1"))
local macro_rules | `(tactic| walk_at "fl.md") => `(tactic| assumption)
local macro_rules | `(tactic| walk_at "fl.pre") => `(tactic| first | assumption | trivial)
local macro_rules | `(tactic| walk_at "fl.rat") => `(tactic| first
  | rfl
  | exact Rat.add_comm _ _
  | exact Rat.mul_comm _ _
  | exact Rat.add_assoc _ _ _
  | exact Rat.mul_assoc _ _ _
  | exact Rat.mul_add _ _ _
  | exact Rat.add_sub_cancel
  | exact Rat.mul_div_cancel (by assumption)
  | exact Rat.div_mul_cancel (by assumption))
-- one step of a reading
local macro_rules | `(tactic| walk_at "fl.s") => `(tactic| first
  | (with_reducible refine g_seq ?_)
  | (with_reducible refine g_op ?_)
  | ((with_reducible apply g_var); (focus rfl))
  | (with_reducible refine g_c ?_)
  | (with_reducible refine g_I0 ?_)
  | ((with_reducible apply g_I); (focus walk_at "fl.side"))
  | (with_reducible refine g_U ?_)
  | (with_reducible refine g_un ?_)
  | ((with_reducible apply g_ixL); (focus walk_at "fl.look"); (focus first | assumption | rfl))
  | ((with_reducible apply g_ixT); (focus walk_at "fl.look"); (focus first | assumption | rfl))
  | (with_reducible refine g_cb1 ?_)
  | (with_reducible refine g_cb2 ?_)
  | (with_reducible refine g_int ?_)
  | (with_reducible refine g_intB ?_)
  | (with_reducible refine g_abs ?_)
  | (with_reducible refine g_max ?_)
  | (with_reducible refine g_min ?_)
  | ((with_reducible apply g_lenL); (focus walk_at "fl.look"))
  | ((with_reducible apply g_lenT); (focus walk_at "fl.look"))
  | (with_reducible refine g_gcd ?_)
  | ((with_reducible apply g_isiT); (focus walk_at "fl.ty"); (focus walk_at "fl.kit"))
  | ((with_reducible apply g_listL); (focus walk_at "fl.look"); intro _ _)
  | ((with_reducible refine g_new ?_ ?_); (focus walk_at "fl.side"); intro _ _)
  | ((with_reducible refine g_tup2 ?_))
  | (with_reducible refine g_eqI ?_)
  | (with_reducible refine g_neI ?_)
  | (with_reducible refine g_eqB ?_)
  | (with_reducible refine g_test ?_)
  | (with_reducible refine g_B ?_)
  | (with_reducible refine g_bl ?_)
  | (with_reducible refine g_ex ?_)
  | (with_reducible refine g_not ?_)
  | (with_reducible refine g_and ?_)
  | (with_reducible refine g_or ?_)
  | (with_reducible refine g_andV ?_)
  | (with_reducible refine g_orV ?_)
  | (with_reducible refine g_notV ?_)
  | (with_reducible refine g_next ?_)
  | (with_reducible refine g_ret ?_)
  | (with_reducible refine g_if ?_)
  | (with_reducible refine g_setS ?_)
  | ((with_reducible apply g_setL); (focus first | assumption | exact upd_same); (focus rfl))
  | (with_reducible refine g_set ?_)
  | ((with_reducible apply g_aug); (focus rfl))
  | (with_reducible refine g_ipI ?_)
  | (with_reducible refine g_drop ?_)
  | (with_reducible refine g_call ?_)
  | ((with_reducible refine draw_app ?_ ?_ ?_ ?_); (focus walk_at "fl.deck"); (focus walk_at "fl.side"); (focus walk_at "fl.side"); intro _ _ _ _ _ _)
  | ((with_reducible refine big_app ?_ ?_); (focus walk_at "fl.deck"); intro _ _ _ _ _ _ _ _ _)
  | ((with_reducible apply deck_app); (focus walk_at "fl.look"); intro _ _ _ _ _)
  | ((with_reducible refine fra_app ?_ ?_ ?_ ?_); (focus walk_at "fl.side"); (focus walk_at "fl.side"); (focus walk_at "fl.side"); intro _ _ _ _ _)
  | ((with_reducible apply cmp_app); (focus walk_at "fl.look"); (focus walk_at "fl.look"); (focus assumption); (focus assumption))
  | ((with_reducible apply down2_app); (focus walk_at "fl.look"); (focus assumption); intro _ _ _ _ _ _)
  | ((with_reducible apply near2_app); (focus walk_at "fl.look"); (focus assumption); intro _ _ _ _ _)
  | (with_reducible refine isint_app ?_)
  | (with_reducible refine sameI_app ?_)
  | (with_reducible refine g_callD ?_)
  | ((with_reducible show spRatq _ _ _ _ _); (apply ratq_app); (focus walk_at "fl.side"); (focus walk_at "fl.side"); (focus walk_at "fl.side"); intro _ _ _ _ _)
  | ((with_reducible apply bin_app); (focus walk_at "fl.look"); (focus walk_at "fl.look"); (focus walk_at "fl.md"); (focus walk_at "fl.md"); (focus walk_at "fl.pre"); intro _ _ _ _ _)
  | ((with_reducible apply cq_app); (focus walk_at "fl.look"); (focus walk_at "fl.look"); (focus walk_at "fl.md"); (focus walk_at "fl.md"))
  | ((with_reducible apply nr_app); (focus walk_at "fl.look"); (focus walk_at "fl.md"))
  | ((with_reducible apply ne_app); (focus walk_at "fl.look"); (focus walk_at "fl.look"); (focus walk_at "fl.rat"))
  | (with_reducible refine g_cons ?_)
  | (with_reducible refine g_nil ?_)
  | (with_reducible refine g_tup2 ?_)
  | (with_reducible refine g_tupN ?_)
  | (with_reducible refine g_lstN ?_)
  | (with_reducible refine g_iteT ?_)
  | (with_reducible refine g_iteF ?_)
  | (with_reducible refine g_iteNT ?_)
  | (with_reducible refine g_iteNF ?_)
  | ((with_reducible show ∀ (p : Addr), (_ : Option HO) = none → _); intro _ _))
local macro_rules | `(tactic| walk_at "fl.go") => `(tactic| repeat walk_at "fl.s")
local macro_rules | `(tactic| walk_at "fl.run") => `(tactic| ((repeat walk_at "fl.s"); try (first
  | (refine g_ite (fun _ => ?_) (fun _ => ?_); all_goals walk_at "fl.run")
  | (refine g_iteN (fun _ => ?_) (fun _ => ?_); all_goals walk_at "fl.run"))))

def topS (i : Nat) : Stmt := PySem.Challenge.pw_fleuron_k07_whole_field_of_fractions.main.body.getD i (.Pass ⟨0, 0, 0, 0⟩)
abbrev s_ratio : Stmt := topS 5
abbrev N_ratio : List Str := ["p", "q", "divisor"]
abbrev ps_ratio : List Str := ["p", "q"]
theorem sc_ratio : FnScope N_ratio ps_ratio (defScope s_ratio) := ⟨rfl, rfl, rfl, by decide +kernel, rfl, by decide +kernel, by decide +kernel⟩
theorem bd_ratio_1 (T : Addr) (kV doc pm : Value) (an : Option Addr) (cdv ct : Value) (us its : List Value) (h : us.length = 1) (h2 : its.length = 1) : ∃ k, bindArgs (PySem.W.fnOf "ratio" "ratio" (defArgs s_ratio) (defBody s_ratio) (defScope s_ratio) (.ref T) kV doc pm an cdv ct) ⟨us, []⟩ = seqItems? (.ref T) >>= k ∧ k (some its.toArray) = pure (ps_ratio.zip (us ++ its.drop 0)) := match us, h, its, h2 with | [_], _, [_], _ => ⟨_, rfl, rfl⟩
theorem bd_ratio_2 (T : Addr) (kV doc pm : Value) (an : Option Addr) (cdv ct : Value) (us its : List Value) (h : us.length = 2) (h2 : its.length = 1) : ∃ k, bindArgs (PySem.W.fnOf "ratio" "ratio" (defArgs s_ratio) (defBody s_ratio) (defScope s_ratio) (.ref T) kV doc pm an cdv ct) ⟨us, []⟩ = seqItems? (.ref T) >>= k ∧ k (some its.toArray) = pure (ps_ratio.zip (us ++ its.drop 1)) := match us, h, its, h2 with | [_, _], _, [_], _ => ⟨_, rfl, rfl⟩
abbrev s_add : Stmt := topS 6
abbrev N_add : List Str := ["a", "b"]
abbrev ps_add : List Str := ["a", "b"]
theorem sc_add : FnScope N_add ps_add (defScope s_add) := ⟨rfl, rfl, rfl, by decide +kernel, rfl, by decide +kernel, by decide +kernel⟩
theorem bd_add (kV doc pm : Value) (an : Option Addr) (cdv ct : Value) (us : List Value) (h : us.length = ps_add.length) : bindArgs (PySem.W.fnOf "add" "add" (defArgs s_add) (defBody s_add) (defScope s_add) .none kV doc pm an cdv ct) ⟨us, []⟩ = pure (ps_add.zip us) := match us, h with | [_, _], _ => rfl
abbrev s_subtract : Stmt := topS 7
abbrev N_subtract : List Str := ["a", "b"]
abbrev ps_subtract : List Str := ["a", "b"]
theorem sc_subtract : FnScope N_subtract ps_subtract (defScope s_subtract) := ⟨rfl, rfl, rfl, by decide +kernel, rfl, by decide +kernel, by decide +kernel⟩
theorem bd_subtract (kV doc pm : Value) (an : Option Addr) (cdv ct : Value) (us : List Value) (h : us.length = ps_subtract.length) : bindArgs (PySem.W.fnOf "subtract" "subtract" (defArgs s_subtract) (defBody s_subtract) (defScope s_subtract) .none kV doc pm an cdv ct) ⟨us, []⟩ = pure (ps_subtract.zip us) := match us, h with | [_, _], _ => rfl
abbrev s_multiply : Stmt := topS 8
abbrev N_multiply : List Str := ["a", "b"]
abbrev ps_multiply : List Str := ["a", "b"]
theorem sc_multiply : FnScope N_multiply ps_multiply (defScope s_multiply) := ⟨rfl, rfl, rfl, by decide +kernel, rfl, by decide +kernel, by decide +kernel⟩
theorem bd_multiply (kV doc pm : Value) (an : Option Addr) (cdv ct : Value) (us : List Value) (h : us.length = ps_multiply.length) : bindArgs (PySem.W.fnOf "multiply" "multiply" (defArgs s_multiply) (defBody s_multiply) (defScope s_multiply) .none kV doc pm an cdv ct) ⟨us, []⟩ = pure (ps_multiply.zip us) := match us, h with | [_, _], _ => rfl
abbrev s_divide : Stmt := topS 9
abbrev N_divide : List Str := ["a", "b"]
abbrev ps_divide : List Str := ["a", "b"]
theorem sc_divide : FnScope N_divide ps_divide (defScope s_divide) := ⟨rfl, rfl, rfl, by decide +kernel, rfl, by decide +kernel, by decide +kernel⟩
theorem bd_divide (kV doc pm : Value) (an : Option Addr) (cdv ct : Value) (us : List Value) (h : us.length = ps_divide.length) : bindArgs (PySem.W.fnOf "divide" "divide" (defArgs s_divide) (defBody s_divide) (defScope s_divide) .none kV doc pm an cdv ct) ⟨us, []⟩ = pure (ps_divide.zip us) := match us, h with | [_, _], _ => rfl
abbrev s_compare : Stmt := topS 10
abbrev N_compare : List Str := ["a", "b", "left", "right"]
abbrev ps_compare : List Str := ["a", "b"]
theorem sc_compare : FnScope N_compare ps_compare (defScope s_compare) := ⟨rfl, rfl, rfl, by decide +kernel, rfl, by decide +kernel, by decide +kernel⟩
theorem bd_compare (kV doc pm : Value) (an : Option Addr) (cdv ct : Value) (us : List Value) (h : us.length = ps_compare.length) : bindArgs (PySem.W.fnOf "compare" "compare" (defArgs s_compare) (defBody s_compare) (defScope s_compare) .none kV doc pm an cdv ct) ⟨us, []⟩ = pure (ps_compare.zip us) := match us, h with | [_, _], _ => rfl
abbrev s_nearest : Stmt := topS 11
abbrev N_nearest : List Str := ["a"]
abbrev ps_nearest : List Str := ["a"]
theorem sc_nearest : FnScope N_nearest ps_nearest (defScope s_nearest) := ⟨rfl, rfl, rfl, by decide +kernel, rfl, by decide +kernel, by decide +kernel⟩
theorem bd_nearest (kV doc pm : Value) (an : Option Addr) (cdv ct : Value) (us : List Value) (h : us.length = ps_nearest.length) : bindArgs (PySem.W.fnOf "nearest" "nearest" (defArgs s_nearest) (defBody s_nearest) (defScope s_nearest) .none kV doc pm an cdv ct) ⟨us, []⟩ = pure (ps_nearest.zip us) := match us, h with | [_], _ => rfl
abbrev s_law_deck : Stmt := topS 13
abbrev N_law_deck : List Str := ["script"]
abbrev ps_law_deck : List Str := ["script"]
theorem sc_law_deck : FnScope N_law_deck ps_law_deck (defScope s_law_deck) := ⟨rfl, rfl, rfl, by decide +kernel, rfl, by decide +kernel, by decide +kernel⟩
theorem bd_law_deck (kV doc pm : Value) (an : Option Addr) (cdv ct : Value) (us : List Value) (h : us.length = ps_law_deck.length) : bindArgs (PySem.W.fnOf "_law_deck" "_law_deck" (defArgs s_law_deck) (defBody s_law_deck) (defScope s_law_deck) .none kV doc pm an cdv ct) ⟨us, []⟩ = pure (ps_law_deck.zip us) := match us, h with | [_], _ => rfl
abbrev s_law_draw : Stmt := topS 14
abbrev N_law_draw : List Str := ["deck", "most", "value", "cell"]
abbrev ps_law_draw : List Str := ["deck", "most"]
theorem sc_law_draw : FnScope N_law_draw ps_law_draw (defScope s_law_draw) := ⟨rfl, rfl, rfl, by decide +kernel, rfl, by decide +kernel, by decide +kernel⟩
theorem bd_law_draw (kV doc pm : Value) (an : Option Addr) (cdv ct : Value) (us : List Value) (h : us.length = ps_law_draw.length) : bindArgs (PySem.W.fnOf "_law_draw" "_law_draw" (defArgs s_law_draw) (defBody s_law_draw) (defScope s_law_draw) .none kV doc pm an cdv ct) ⟨us, []⟩ = pure (ps_law_draw.zip us) := match us, h with | [_, _], _ => rfl
abbrev s_law_same : Stmt := topS 15
abbrev N_law_same : List Str := ["actual", "due", "k"]
abbrev ps_law_same : List Str := ["actual", "due"]
theorem sc_law_same : FnScope N_law_same ps_law_same (defScope s_law_same) := ⟨rfl, rfl, rfl, by decide +kernel, rfl, by decide +kernel, by decide +kernel⟩
theorem bd_law_same (kV doc pm : Value) (an : Option Addr) (cdv ct : Value) (us : List Value) (h : us.length = ps_law_same.length) : bindArgs (PySem.W.fnOf "_law_same" "_law_same" (defArgs s_law_same) (defBody s_law_same) (defScope s_law_same) .none kV doc pm an cdv ct) ⟨us, []⟩ = pure (ps_law_same.zip us) := match us, h with | [_, _], _ => rfl
abbrev s_law_gcd : Stmt := topS 16
abbrev N_law_gcd : List Str := ["a", "b", "k", "rest"]
abbrev ps_law_gcd : List Str := ["a", "b"]
theorem sc_law_gcd : FnScope N_law_gcd ps_law_gcd (defScope s_law_gcd) := ⟨rfl, rfl, rfl, by decide +kernel, rfl, by decide +kernel, by decide +kernel⟩
theorem bd_law_gcd (kV doc pm : Value) (an : Option Addr) (cdv ct : Value) (us : List Value) (h : us.length = ps_law_gcd.length) : bindArgs (PySem.W.fnOf "_law_gcd" "_law_gcd" (defArgs s_law_gcd) (defBody s_law_gcd) (defScope s_law_gcd) .none kV doc pm an cdv ct) ⟨us, []⟩ = pure (ps_law_gcd.zip us) := match us, h with | [_, _], _ => rfl
abbrev s_law_ratio : Stmt := topS 17
abbrev N_law_ratio : List Str := ["p", "q", "divisor"]
abbrev ps_law_ratio : List Str := ["p", "q"]
theorem sc_law_ratio : FnScope N_law_ratio ps_law_ratio (defScope s_law_ratio) := ⟨rfl, rfl, rfl, by decide +kernel, rfl, by decide +kernel, by decide +kernel⟩
theorem bd_law_ratio (kV doc pm : Value) (an : Option Addr) (cdv ct : Value) (us : List Value) (h : us.length = ps_law_ratio.length) : bindArgs (PySem.W.fnOf "_law_ratio" "_law_ratio" (defArgs s_law_ratio) (defBody s_law_ratio) (defScope s_law_ratio) .none kV doc pm an cdv ct) ⟨us, []⟩ = pure (ps_law_ratio.zip us) := match us, h with | [_, _], _ => rfl
abbrev s_law_big : Stmt := topS 18
abbrev N_law_big : List Str := ["deck", "kind"]
abbrev ps_law_big : List Str := ["deck"]
theorem sc_law_big : FnScope N_law_big ps_law_big (defScope s_law_big) := ⟨rfl, rfl, rfl, by decide +kernel, rfl, by decide +kernel, by decide +kernel⟩
theorem bd_law_big (kV doc pm : Value) (an : Option Addr) (cdv ct : Value) (us : List Value) (h : us.length = ps_law_big.length) : bindArgs (PySem.W.fnOf "_law_big" "_law_big" (defArgs s_law_big) (defBody s_law_big) (defScope s_law_big) .none kV doc pm an cdv ct) ⟨us, []⟩ = pure (ps_law_big.zip us) := match us, h with | [_], _ => rfl
abbrev s_law : Stmt := topS 19
abbrev N_law : List Str := ["script", "deck", "a", "b", "c", "whole"]
abbrev ps_law : List Str := ["script"]
theorem sc_law : FnScope N_law ps_law (defScope s_law) := ⟨rfl, rfl, rfl, by decide +kernel, rfl, by decide +kernel, by decide +kernel⟩
theorem bd_law (kV doc pm : Value) (an : Option Addr) (cdv ct : Value) (us : List Value) (h : us.length = ps_law.length) : bindArgs (PySem.W.fnOf "law" "law" (defArgs s_law) (defBody s_law) (defScope s_law) .none kV doc pm an cdv ct) ⟨us, []⟩ = pure (ps_law.zip us) := match us, h with | [_], _ => rfl
structure Txt (K : PySem.W.Frag) (mg : Str → Option Value) : Prop where
  z_abs : mg "abs" = none
  z_bool : mg "bool" = none
  z_int : mg "int" = none
  z_isinstance : mg "isinstance" = none
  z_len : mg "len" = none
  z_list : mg "list" = none
  z_range : mg "range" = none
  z_str : mg "str" = none
  z_tuple : mg "tuple" = none
  g_gcd : mg "gcd" = some (.builtin "math.gcd")
  d_ratio : DefInD K mg "ratio" s_ratio [.int 1]
  d_add : DefIn K mg "add" s_add
  d_subtract : DefIn K mg "subtract" s_subtract
  d_multiply : DefIn K mg "multiply" s_multiply
  d_divide : DefIn K mg "divide" s_divide
  d_compare : DefIn K mg "compare" s_compare
  d_nearest : DefIn K mg "nearest" s_nearest
  d_law_deck : DefIn K mg "_law_deck" s_law_deck
  d_law_draw : DefIn K mg "_law_draw" s_law_draw
  d_law_same : DefIn K mg "_law_same" s_law_same
  d_law_gcd : DefIn K mg "_law_gcd" s_law_gcd
  d_law_ratio : DefIn K mg "_law_ratio" s_law_ratio
  d_law_big : DefIn K mg "_law_big" s_law_big
  d_law : DefIn K mg "law" s_law

section
variable {P : Program} {w : World} {K : PySem.W.Frag} {mg : Str → Option Value} {base : Heap}
theorem ok_law_deck (T : Txt K mg) : Has P w K mg base 1 "_law_deck" ps_law_deck (spDeck K) := by
  refine has_of T.d_law_deck sc_law_deck bd_law_deck (fun vs H Q E h => ?_) (fun f cdv A outer s H vs Q E hr h => ?_)
  · obtain ⟨a, ns, rfl, _⟩ := h
    rfl
  · obtain ⟨a, ns, rfl, hS, q⟩ := h
    refine ⟨_, (pss_one (ps_ret (pe_lst (pa_cons (pe_callTy call_list' (by rfl) T.z_list (by decide +kernel) (pa_cons (pv 0) pa_nil)) (pa_cons pe_int (pa_cons pe_int (pa_cons pe_int pa_nil))))))), ?_⟩
    walk_at "fl.go"
    rename_i l hl d hd
    have hd' : H d = none := Same.free (Fl.Same.new hl) hd
    refine q d _ hd' ⟨l, ns, 0, 0, 7, upd_same, ?_, ?_, Int.le_refl 0⟩ ((Fl.Same.new hl).trans (Fl.Same.new hd))
    · exact Same.seq (Fl.Same.new hd) (SqL.of upd_same)
    · intro e
      rw [e, upd_same] at hd
      cases hd
theorem ok_law_draw (T : Txt K mg) : Has P w K mg base 1 "_law_draw" ps_law_draw (spDraw K) := by
  refine has_of T.d_law_draw sc_law_draw bd_law_draw (fun vs H Q E h => ?_) (fun f cdv A outer s H vs Q E hr h => ?_)
  · obtain ⟨a, ns, rfl, _⟩ := h
    rfl
  · obtain ⟨d, m, rfl, ⟨sa, ns, pos, rest, seed, hd, hS, hne, hpos⟩, hm, hm2, q⟩ := h
    refine ⟨_, (pss_cons (ps_if (pt_cmpR op_ge (pe_ix ix_list (pv 0) pe_int (fun _ _ => rfl)) (pv 1) (nomark _))
        (pss_cons (ps_set (i := 2) sc_law_draw.nd rfl (.inl rfl) (pe_op op_mod (pe_callTy call_int' (by rfl) T.z_int (by decide +kernel) (pa_cons (pe_ix ix_list (pv 0) pe_int (fun _ _ => rfl)) pa_nil)) (pv 1)))
      (pss_cons (ps_asg (pe_op op_fdivW (pe_ix ix_list (pv 0) pe_int (fun _ _ => rfl)) (pv 1)) (pg_sub (pv 0) pe_int set_list))
      (pss_one (ps_ret (pv 2)))))
        pss_nil)
      (pss_cons (ps_set (i := 3) sc_law_draw.nd rfl (.inl rfl) pe_int)
      (pss_cons (ps_if (pt_cmpR op_lt (pe_ix ix_list (pv 0) pe_int (fun _ _ => rfl)) (pe_callB call_len' (by rfl) T.z_len (by decide +kernel) (pa_cons (pe_ix ix_list (pv 0) pe_int (fun _ _ => rfl)) pa_nil)) (nomark _))
        (pss_one (ps_set (i := 3) sc_law_draw.nd rfl (.inl rfl) (pe_ix ix_list (pe_ix ix_list (pv 0) pe_int (fun _ _ => rfl)) (pe_ix ix_list (pv 0) pe_int (fun _ _ => rfl)) (fun _ _ => rfl))))
        pss_nil)
      (pss_cons (ps_asg (pe_op op_add (pe_ix ix_list (pv 0) pe_int (fun _ _ => rfl)) pe_int) (pg_sub (pv 0) pe_int set_list))
      (pss_cons (ps_asg pe_int (pg_sub (pv 0) pe_int set_list))
      (pss_cons (ps_if (pt_cmpR op_ge (pv 3) (pe_powc (r := 1000000000000000000) (by decide) (by decide +kernel)) (nomark _))
        (pss_cons (ps_asg (pe_op op_fdivW (pv 3) (pv 1)) (pg_sub (pv 0) pe_int set_list))
      (pss_one (ps_ret (pe_op op_mod (pe_callTy call_int' (by rfl) T.z_int (by decide +kernel) (pa_cons (pv 3) pa_nil)) (pv 1)))))
        pss_nil)
      (pss_cons (ps_asg (pe_op op_mod (pe_callTy call_int' (by rfl) T.z_int (by decide +kernel) (pa_cons (pe_op op_add (pe_op op_add (pe_op op_mul (pe_ix ix_list (pv 0) pe_int (fun _ _ => rfl)) pe_int) (pe_op op_mul (pv 3) pe_int)) (pe_op op_mul (pe_ix ix_list (pv 0) pe_int (fun _ _ => rfl)) pe_int)) pa_nil)) pe_int) (pg_sub (pv 0) pe_int set_list))
      (pss_cons (ps_asg (pe_op op_mod (pe_callTy call_int' (by rfl) T.z_int (by decide +kernel) (pa_cons (pe_op op_add (pe_op op_mul (pe_ix ix_list (pv 0) pe_int (fun _ _ => rfl)) pe_int) pe_int) pa_nil)) pe_int) (pg_sub (pv 0) pe_int set_list))
      (pss_one (ps_ret (pe_op op_mod (pe_callTy call_int' (by rfl) T.z_int (by decide +kernel) (pa_cons (pe_op op_fdivW (pe_ix ix_list (pv 0) pe_int (fun _ _ => rfl)) pe_int) pa_nil)) (pv 1)))))))))))), ?_⟩
    have hlen : (ns.map V.int).length = ns.length := List.length_map _
    rcases (by omega : pos < ns.length ∨ ¬ pos < ns.length) with hp | hp
    · obtain ⟨n, hn⟩ := at_int hpos hp
      walk_at "fl.run"
      all_goals first
        | (exfalso; omega)
        | (refine q _ _ (Int.emod_nonneg _ (by omega)) (Int.emod_lt_of_pos _ hm) ⟨sa, ns, _, _, _, upd_same, ?_, hne, ?_⟩ ?_
           · walk_at "fl.look"
           · omega
           · walk_at "fl.ex1")
    · walk_at "fl.run"
      all_goals first
        | (exfalso; omega)
        | (refine q _ _ (Int.emod_nonneg _ (by omega)) (Int.emod_lt_of_pos _ hm) ⟨sa, ns, _, _, _, upd_same, ?_, hne, ?_⟩ ?_
           · walk_at "fl.look"
           · omega
           · walk_at "fl.ex1")
theorem ok_law_gcd (T : Txt K mg) : Has P w K mg base 1 "_law_gcd" ps_law_gcd spGcd := by
  refine has_of T.d_law_gcd sc_law_gcd bd_law_gcd (fun vs H Q E h => ?_) (fun f cdv A outer s H vs Q E hr h => ?_)
  · obtain ⟨a, ns, rfl, _⟩ := h
    rfl
  · obtain ⟨m, n, rfl, hB, q⟩ := h
    refine ⟨_, (pss_cons (ps_for PassesOwn.never rfl (pi_range1 (by rfl) T.z_range (pa_cons pe_int pa_nil)) (pg_name (i := 2) sc_law_gcd.nd rfl (.inl rfl))
        (pss_cons (ps_if (pt_cmpR op_eq (pv 1) pe_int (nomark _))
        (pss_one (ps_ret (pv 0)))
        pss_nil)
      (pss_cons (ps_set (i := 3) sc_law_gcd.nd rfl (.inl rfl) (pe_op op_mod (pe_callTy call_int' (by rfl) T.z_int (by decide +kernel) (pa_cons (pv 0) pa_nil)) (pv 1)))
      (pss_cons (ps_set (i := 0) sc_law_gcd.nd rfl (.inl rfl) (pv 1))
      (pss_one (ps_set (i := 1) sc_law_gcd.nd rfl (.inl rfl) (pv 3)))))))
      (pss_one (ps_ret (pv 0)))), ?_⟩
    refine g_seq ?_
    refine g_forR 5000 (fun i σ' H' => ∃ (x y : Nat) (u1 u2 : Option V), H' = H ∧ σ' = [some (.int (x : Int)), some (.int (y : Int)), u1, u2] ∧ Eu (Nat.gcd m n) (m * n) i x y) ?_ ?_ ?_ ?_
    · exact ⟨rfl, by decide, by decide, m, n, none, none, rfl, rfl, Eu.start (Nat.le_refl _)⟩
    · intro i σ' H' hi hP
      obtain ⟨x, y, u1, u2, rfl, rfl, he⟩ := hP
      show tSeq _ _ _ [some (V.int (x : Int)), some (V.int (y : Int)), some (V.int (i : Int)), u2] H'
      rcases Nat.eq_zero_or_pos y with hy | hy
      · subst hy
        walk_at "fl.run"
        · rw [he.done]
          exact q
        · exfalso
          omega
      · walk_at "fl.run"
        · exfalso
          omega
        · refine ⟨y, x % y, some (.int (i : Int)), some (.int ((x : Int) % (y : Int))), rfl, ?_, he.step hy⟩
          rw [Int.natCast_emod]
          rfl
    · intro σ' H' hP
      obtain ⟨x, y, u1, u2, rfl, rfl, he⟩ := hP
      walk_at "fl.run"
      rw [he.fin hB]
      exact q
    · exact fun Q Q' h q => h _ _ q
theorem ok_law_ratio (T : Txt K mg) : Has P w K mg base 2 "_law_ratio" ps_law_ratio spRat := by
  have h_law_gcd := ok_law_gcd (P := P) (w := w) (base := base) T
  refine has_of T.d_law_ratio sc_law_ratio bd_law_ratio (fun vs H Q E h => ?_) (fun f cdv A outer s H vs Q E hr h => ?_)
  · obtain ⟨a, ns, rfl, _⟩ := h
    rfl
  · obtain ⟨p, q, rfl, hq, h1, h2, k⟩ := h
    refine ⟨_, (pss_cons (ps_set (i := 2) sc_law_ratio.nd rfl (.inl rfl) (pe_h h_law_gcd (hr.mono (by decide)) (pa_cons (pe_callB call_abs' (by rfl) T.z_abs (by decide +kernel) (pa_cons (pv 0) pa_nil)) (pa_cons (pe_callB call_abs' (by rfl) T.z_abs (by decide +kernel) (pa_cons (pv 1) pa_nil)) pa_nil))))
      (pss_cons (ps_if (pt_cmpR op_lt (pv 1) pe_int (nomark _))
        (pss_one (ps_set (i := 2) sc_law_ratio.nd rfl (.inl rfl) (pe_un un_neg (pv 2))))
        pss_nil)
      (pss_one (ps_ret (pe_tup (pa_cons (pe_op op_fdivS (pv 0) (pv 2)) (pa_cons (pe_op op_fdivS (pv 1) (pv 2)) pa_nil))))))), ?_⟩
    have ea : ∀ x : Int, (if x < 0 then -x else x) = ((x.natAbs : Nat) : Int) := fun x => by split <;> omega
    have hg : gg p q = ((Nat.gcd p.natAbs q.natAbs : Nat) : Int) := rfl
    have hg0 := gg_pos (p := p) hq
    have hg1 : (gg p q).natAbs < 2 ^ 4000 := by
      have := Nat.gcd_le_right p.natAbs (show 0 < q.natAbs by omega)
      have e : (2 : Nat) ^ 2000 < 2 ^ 4000 := by decide +kernel
      omega
    walk_at "fl.run"
    rw [ea, ea]
    have hB : p.natAbs * q.natAbs < 2 ^ 4990 := by
      have h3 : p.natAbs * q.natAbs < 2 ^ 2000 * 2 ^ 2000 := Nat.mul_lt_mul'' h1 h2
      have e : (2 : Nat) ^ 2000 * 2 ^ 2000 < 2 ^ 4990 := by decide +kernel
      omega
    refine ⟨p.natAbs, q.natAbs, rfl, hB, ?_⟩
    rw [← hg]
    have hn0 : gg p q ≠ 0 := by omega
    have hn1 : -(gg p q) ≠ 0 := by omega
    have hn2 : (-(gg p q)).natAbs < 2 ^ 4000 := by omega
    walk_at "fl.run"
    · rename_i hlt t ht
      have := k t ht
      unfold rp rq at this
      rw [if_pos hlt, if_pos hlt] at this
      rw [fdiv_neg_exact hg0 (gg_dvd_l p q), fdiv_neg_exact hg0 (gg_dvd_r p q)]
      exact this
    · rename_i hlt t ht
      have := k t ht
      unfold rp rq at this
      rw [if_neg hlt, if_neg hlt] at this
      rw [fdiv_pos_exact hg0, fdiv_pos_exact hg0]
      exact this
theorem ok_law_big (T : Txt K mg) : Has P w K mg base 3 "_law_big" ps_law_big (spBig K) := by
  have h_law_draw := ok_law_draw (P := P) (w := w) (base := base) T
  have h_law_ratio := ok_law_ratio (P := P) (w := w) (base := base) T
  refine has_of T.d_law_big sc_law_big bd_law_big (fun vs H Q E h => ?_) (fun f cdv A outer s H vs Q E hr h => ?_)
  · obtain ⟨a, rfl, _⟩ := h
    rfl
  · obtain ⟨d, rfl, hD, q⟩ := h
    refine ⟨_, (pss_cons (ps_set (i := 1) sc_law_big.nd rfl (.inl rfl) (pe_h h_law_draw (hr.mono (by decide)) (pa_cons (pv 0) (pa_cons pe_int pa_nil))))
      (pss_cons (ps_if (pt_cmpR op_lt (pv 1) pe_int (nomark _))
        (pss_one (ps_ret (pe_tup (pa_cons (pe_op op_sub (pe_h h_law_draw (hr.mono (by decide)) (pa_cons (pv 0) (pa_cons pe_int pa_nil))) pe_int) (pa_cons pe_int pa_nil)))))
        pss_nil)
      (pss_cons (ps_if (pt_cmpR op_lt (pv 1) pe_int (nomark _))
        (pss_one (ps_ret (pe_h h_law_ratio (hr.mono (by decide)) (pa_cons (pe_op op_sub (pe_h h_law_draw (hr.mono (by decide)) (pa_cons (pv 0) (pa_cons pe_int pa_nil))) pe_int) (pa_cons (pe_op op_add pe_int (pe_h h_law_draw (hr.mono (by decide)) (pa_cons (pv 0) (pa_cons pe_int pa_nil)))) pa_nil)))))
        pss_nil)
      (pss_one (ps_ret (pe_h h_law_ratio (hr.mono (by decide)) (pa_cons (pe_op op_sub (pe_h h_law_draw (hr.mono (by decide)) (pa_cons (pv 0) (pa_cons (pe_powc (r := 1000000000000) (by decide) (by decide +kernel)) pa_nil))) (pe_powc (r := 100000000000) (by decide) (by decide +kernel))) (pa_cons (pe_op op_add pe_int (pe_h h_law_draw (hr.mono (by decide)) (pa_cons (pv 0) (pa_cons (pe_op op_sub (pe_powc (r := 1000000000000) (by decide) (by decide +kernel)) pe_int) pa_nil)))) pa_nil)))))))), ?_⟩
    walk_at "fl.run"
    · exact q _ _ _ _ (by walk_at "fl.deck") (by walk_at "fl.ex1") (by walk_at "fl.ne") (by walk_at "fl.look") (Fra.int (by omega))
    · exact q _ _ _ _ (by walk_at "fl.deck") (by walk_at "fl.ex1") (by walk_at "fl.ne") (by walk_at "fl.look") (by assumption)
    · exact q _ _ _ _ (by walk_at "fl.deck") (by walk_at "fl.ex1") (by walk_at "fl.ne") (by walk_at "fl.look") (by assumption)
theorem ok_law_same (T : Txt K mg) : Has P w K mg base 1 "_law_same" ps_law_same spSameI := by
  refine has_of T.d_law_same sc_law_same bd_law_same (fun vs H Q E h => ?_) (fun f cdv A outer s H vs Q E hr h => ?_)
  · obtain ⟨i, j, rfl, _⟩ := h
    rfl
  · obtain ⟨i, j, rfl, q⟩ := h
    refine ⟨_, (pss_cons (ps_if (pt_val (pe_callB call_isi (by rfl) T.z_isinstance (by decide +kernel) (pa_cons (pv 1) (pa_cons (pe_bltn (v := .ty "tuple") (by rfl) T.z_tuple (by decide +kernel) rfl) pa_nil))))
        pss_never
        pss_nil)
      (pss_cons (ps_if (PW.pt (pw_or (pt_val (pe_callB call_isi (by rfl) T.z_isinstance (by decide +kernel) (pa_cons (pv 1) (pa_cons (pe_bltn (v := .ty "bool") (by rfl) T.z_bool (by decide +kernel) rfl) pa_nil)))) (pw_or1 (pt_val (pe_callB call_isi (by rfl) T.z_isinstance (by decide +kernel) (pa_cons (pv 0) (pa_cons (pe_bltn (v := .ty "bool") (by rfl) T.z_bool (by decide +kernel) rfl) pa_nil)))))))
        (pss_one (ps_ret (pe_and (pe_callB call_isi (by rfl) T.z_isinstance (by decide +kernel) (pa_cons (pv 1) (pa_cons (pe_bltn (v := .ty "bool") (by rfl) T.z_bool (by decide +kernel) rfl) pa_nil))) (pe_and (pe_callB call_isi (by rfl) T.z_isinstance (by decide +kernel) (pa_cons (pv 0) (pa_cons (pe_bltn (v := .ty "bool") (by rfl) T.z_bool (by decide +kernel) rfl) pa_nil))) (pe_one (pe_cmpR op_eq (pv 1) (pv 0) (nomark _)))))))
        pss_nil)
      (pss_cons (ps_if (pt_val (pe_callB call_isi (by rfl) T.z_isinstance (by decide +kernel) (pa_cons (pv 1) (pa_cons (pe_bltn (v := .ty "int") (by rfl) T.z_int (by decide +kernel) rfl) pa_nil))))
        (pss_one (ps_ret (pe_and (pe_callB call_isi (by rfl) T.z_isinstance (by decide +kernel) (pa_cons (pv 0) (pa_cons (pe_bltn (v := .ty "int") (by rfl) T.z_int (by decide +kernel) rfl) pa_nil))) (pe_one (pe_cmpR op_eq (pv 0) (pv 1) (nomark _))))))
        pss_nil)
      (pss_cons (ps_if (pt_val (pe_callB call_isi (by rfl) T.z_isinstance (by decide +kernel) (pa_cons (pv 1) (pa_cons (pe_bltn (v := .ty "str") (by rfl) T.z_str (by decide +kernel) rfl) pa_nil))))
        (pss_one (ps_ret (pe_and (pe_callB call_isi (by rfl) T.z_isinstance (by decide +kernel) (pa_cons (pv 0) (pa_cons (pe_bltn (v := .ty "str") (by rfl) T.z_str (by decide +kernel) rfl) pa_nil))) (pe_one (pe_cmpR op_eq (pv 0) (pv 1) (nomark _))))))
        pss_nil)
      (pss_one (ps_ret (pe_and (pe_cmpR op_isN (pv 1) pe_non (nomark _)) (pe_one (pe_cmpR op_isN (pv 0) pe_non (nomark _)))))))))), ?_⟩
    walk_at "fl.run"
    exact q
theorem body_ratio (T : Txt K mg) (f : Addr) (cdv : Value) (A : Around) (outer : List Env) (s : Shared) (H : Hp) (vs : List V) (Q : VK) (E : XK)
    (hr : Room 0 (A.deeper (envOfC "ratio" (defScope s_ratio) s.heap.objs.size f cdv))) (h : spRatq K vs H Q E) :
      ∃ t, PSs (bx P w K mg base N_ratio "ratio" s_ratio f cdv A outer s H E) (defBody s_ratio) t ∧ t { nx := fun _ H' => Q .non H', rt := Q } (start N_ratio vs) H := by
  obtain ⟨p, q, rfl, hq, h1, h2, k⟩ := h
  refine ⟨_, (pss_cons (ps_if (pt_cmpR op_eq (pv 1) pe_int (nomark _))
        pss_never
        pss_nil)
      (pss_cons (ps_set (i := 2) sc_ratio.nd rfl (.inl rfl) (pe_callBfun cr_gcd (by rfl) T.g_gcd (pa_cons (pv 0) (pa_cons (pv 1) pa_nil))))
      (pss_cons (ps_if (pt_cmpR op_lt (pv 1) pe_int (nomark _))
        (pss_one (ps_set (i := 2) sc_ratio.nd rfl (.inl rfl) (pe_un un_neg (pv 2))))
        pss_nil)
      (pss_one (ps_ret (pe_tup (pa_cons (pe_op op_fdivS (pv 0) (pv 2)) (pa_cons (pe_op op_fdivS (pv 1) (pv 2)) pa_nil)))))))), ?_⟩
  have hg0 := gg_pos (p := p) hq
  have hg1 : (gg p q).natAbs < 2 ^ 4000 := by
    have := Nat.gcd_le_right p.natAbs (show 0 < q.natAbs by omega)
    have e : (2 : Nat) ^ 1900 < 2 ^ 4000 := by decide +kernel
    have hg : gg p q = ((Nat.gcd p.natAbs q.natAbs : Nat) : Int) := rfl
    omega
  have hn0 : gg p q ≠ 0 := by omega
  have hn1 : -(gg p q) ≠ 0 := by omega
  have hn2 : (-(gg p q)).natAbs < 2 ^ 4000 := by omega
  have e1 := rp_num (p := p) hq
  have e2 := rq_den (p := p) hq
  unfold rp at e1
  unfold rq at e2
  walk_at "fl.go"
  refine g_ite (fun z => absurd z hq) (fun _ => ?_)
  walk_at "fl.go"
  refine g_ite (fun hlt => ?_) (fun hlt => ?_)
  · rw [if_pos hlt] at e1 e2
    change ((Nat.gcd p.natAbs q.natAbs : Nat) : Int) ≠ 0 at hn0
    walk_at "fl.go"
    rename_i t ht
    refine k t _ ht (Fl.Same.new ht) ?_
    unfold RV
    rw [← e1, ← e2, ← fdiv_neg_exact hg0 (gg_dvd_l p q), ← fdiv_neg_exact hg0 (gg_dvd_r p q)]
    exact SqT.of upd_same
  · rw [if_neg hlt] at e1 e2
    walk_at "fl.go"
    rename_i t ht
    refine k t _ ht (Fl.Same.new ht) ?_
    unfold RV
    rw [← e1, ← e2, ← fdiv_pos_exact hg0, ← fdiv_pos_exact hg0]
    exact SqT.of upd_same
end
end K07

set_option Elab.async false
set_option linter.all false
set_option maxRecDepth 100000
set_option maxHeartbeats 4000000
set_option exponentiation.threshold 20000
namespace K07
open PySem PySem.Spec PyProof.Rows L2 Fl
-- facts of a place in the heap
local macro_rules | `(tactic| walk_at "fl.ne") => `(tactic| first
  | assumption
  | exact Ne.symm (by assumption)
  | ((with_reducible apply DeckAt.ne'); (focus assumption); walk_at "fl.deck"))
local macro_rules | `(tactic| walk_at "fl.look") => `(tactic| first
  | assumption
  | ((with_reducible show RV _ _ _ _); (with_reducible apply RV.ex1); (focus assumption); (focus walk_at "fl.ne"); walk_at "fl.look")
  | ((with_reducible show RV _ _ _ _); (with_reducible apply RV.same); (focus assumption); walk_at "fl.look")
  | ((with_reducible show RV _ _ _ _); (with_reducible apply RV.same); (focus exact Fl.Same.new (by assumption)); walk_at "fl.look")
  | (with_reducible exact SqL.of upd_same)
  | (with_reducible exact SqT.of upd_same)
  | ((with_reducible apply SqL.of); assumption)
  | ((with_reducible apply SqT.of); assumption)
  | ((with_reducible apply Ex1.l); (focus with_reducible exact Ex1.upd); (focus walk_at "fl.ne"); walk_at "fl.look")
  | ((with_reducible apply Ex1.t); (focus with_reducible exact Ex1.upd); (focus walk_at "fl.ne"); walk_at "fl.look")
  | ((with_reducible apply Same.seq); (focus exact Fl.Same.new (by assumption)); walk_at "fl.look")
  | ((with_reducible apply Fl.Same.t); (focus exact Fl.Same.new (by assumption)); walk_at "fl.look")
  | ((with_reducible apply Ex1.l); (focus assumption); (focus walk_at "fl.ne"); walk_at "fl.look")
  | ((with_reducible apply Ex1.t); (focus assumption); (focus walk_at "fl.ne"); walk_at "fl.look")
  | ((with_reducible apply Same.seq); (focus assumption); walk_at "fl.look")
  | ((with_reducible apply Fl.Same.t); (focus assumption); walk_at "fl.look"))
-- arithmetic that an operation asks
local macro_rules | `(tactic| walk_at "fl.side") => `(tactic| first
  | decide
  | assumption
  | omega
  | (simp only [List.length_cons, List.length_nil]; omega)
  | exact Or.inr (by decide)
  | (refine ⟨?_, ?_, ?_⟩ <;> decide)
  | exact Or.inl (by decide)
  | exact mulW (by first | assumption | omega) (by first | assumption | omega)
  | exact divW (by first | assumption | omega) (by first | assumption | omega)
  | exact divS (by first | assumption | omega) (by first | assumption | omega)
  | exact div62 (by first | assumption | decide | omega) (by first | assumption | decide | omega))
local macro_rules | `(tactic| walk_at "fl.kit") => `(tactic| first | exact kit_int_int | exact kit_int_bool | exact kit_int_tuple | exact kit_int_str | exact kit_int_list | exact kit_int_dict | exact kit_bool_int | exact kit_bool_bool | exact kit_bool_tuple | exact kit_bool_str | exact kit_bool_list | exact kit_bool_dict | exact kit_tuple_int | exact kit_tuple_bool | exact kit_tuple_tuple | exact kit_tuple_str | exact kit_tuple_list | exact kit_tuple_dict | exact kit_str_int | exact kit_str_bool | exact kit_str_tuple | exact kit_str_str | exact kit_str_list | exact kit_str_dict | exact kit_list_int | exact kit_list_bool | exact kit_list_tuple | exact kit_list_str | exact kit_list_list | exact kit_list_dict | exact kit_NoneType_int | exact kit_NoneType_bool | exact kit_NoneType_tuple | exact kit_NoneType_str | exact kit_NoneType_list | exact kit_NoneType_dict | exact kit_dict_int | exact kit_dict_bool | exact kit_dict_tuple | exact kit_dict_str | exact kit_dict_list | exact kit_dict_dict)
local macro_rules | `(tactic| walk_at "fl.ty") => `(tactic| first
  | exact .base (.int _)
  | exact .base (.bl _)
  | exact .base .non
  | exact .base (.str _)
  | exact .base (.tup upd_same)
  | exact .base (.lst upd_same)
  | (apply TyX.base; apply TyOf.tup; assumption)
  | (apply TyX.base; apply TyOf.lst; assumption))
local macro_rules | `(tactic| walk_at "fl.deck") => `(tactic| first
  | assumption
  | (refine DeckAt.same ?_ (Fl.Same.new (by assumption)); walk_at "fl.deck")
  | (refine DeckAt.same ?_ (by assumption); walk_at "fl.deck"))
local macro_rules | `(tactic| walk_at "fl.ex1") => `(tactic| first
  | assumption
  | exact Ex1.refl
  | exact Ex1.upd
  | (refine Ex1.trans ?_ Ex1.upd; walk_at "fl.ex1")
  | (refine Ex1.trans ?_ (Ex1.of (Fl.Same.new (by assumption))); walk_at "fl.ex1")
  | (refine Ex1.trans ?_ (by assumption); walk_at "fl.ex1")
  | (refine Ex1.trans ?_ (Ex1.of (by assumption)); walk_at "fl.ex1"))
local macro_rules | `(tactic| walk_at "fl.md") => `(tactic| assumption)
local macro_rules | `(tactic| walk_at "fl.pre") => `(tactic| first | assumption | trivial)
local macro_rules | `(tactic| walk_at "fl.rat") => `(tactic| first
  | rfl
  | exact Rat.add_comm _ _
  | exact Rat.mul_comm _ _
  | exact Rat.add_assoc _ _ _
  | exact Rat.mul_assoc _ _ _
  | exact Rat.mul_add _ _ _
  | exact Rat.add_sub_cancel
  | exact Rat.mul_div_cancel (by assumption)
  | exact Rat.div_mul_cancel (by assumption))
-- one step of a reading
local macro_rules | `(tactic| walk_at "fl.s") => `(tactic| first
  | (with_reducible refine g_seq ?_)
  | (with_reducible refine g_op ?_)
  | ((with_reducible apply g_var); (focus rfl))
  | (with_reducible refine g_c ?_)
  | (with_reducible refine g_I0 ?_)
  | ((with_reducible apply g_I); (focus walk_at "fl.side"))
  | (with_reducible refine g_U ?_)
  | (with_reducible refine g_un ?_)
  | ((with_reducible apply g_ixL); (focus walk_at "fl.look"); (focus first | assumption | rfl))
  | ((with_reducible apply g_ixT); (focus walk_at "fl.look"); (focus first | assumption | rfl))
  | (with_reducible refine g_cb1 ?_)
  | (with_reducible refine g_cb2 ?_)
  | (with_reducible refine g_int ?_)
  | (with_reducible refine g_intB ?_)
  | (with_reducible refine g_abs ?_)
  | (with_reducible refine g_max ?_)
  | (with_reducible refine g_min ?_)
  | ((with_reducible apply g_lenL); (focus walk_at "fl.look"))
  | ((with_reducible apply g_lenT); (focus walk_at "fl.look"))
  | (with_reducible refine g_gcd ?_)
  | ((with_reducible apply g_isiT); (focus walk_at "fl.ty"); (focus walk_at "fl.kit"))
  | ((with_reducible apply g_listL); (focus walk_at "fl.look"); intro _ _)
  | ((with_reducible refine g_new ?_ ?_); (focus walk_at "fl.side"); intro _ _)
  | ((with_reducible refine g_tup2 ?_))
  | (with_reducible refine g_eqI ?_)
  | (with_reducible refine g_neI ?_)
  | (with_reducible refine g_eqB ?_)
  | (with_reducible refine g_test ?_)
  | (with_reducible refine g_B ?_)
  | (with_reducible refine g_bl ?_)
  | (with_reducible refine g_ex ?_)
  | (with_reducible refine g_not ?_)
  | (with_reducible refine g_and ?_)
  | (with_reducible refine g_or ?_)
  | (with_reducible refine g_andV ?_)
  | (with_reducible refine g_orV ?_)
  | (with_reducible refine g_notV ?_)
  | (with_reducible refine g_next ?_)
  | (with_reducible refine g_ret ?_)
  | (with_reducible refine g_if ?_)
  | (with_reducible refine g_setS ?_)
  | ((with_reducible apply g_setL); (focus first | assumption | exact upd_same); (focus rfl))
  | (with_reducible refine g_set ?_)
  | ((with_reducible apply g_aug); (focus rfl))
  | (with_reducible refine g_ipI ?_)
  | (with_reducible refine g_drop ?_)
  | (with_reducible refine g_call ?_)
  | ((with_reducible refine draw_app ?_ ?_ ?_ ?_); (focus walk_at "fl.deck"); (focus walk_at "fl.side"); (focus walk_at "fl.side"); intro _ _ _ _ _ _)
  | ((with_reducible refine big_app ?_ ?_); (focus walk_at "fl.deck"); intro _ _ _ _ _ _ _ _ _)
  | ((with_reducible apply deck_app); (focus walk_at "fl.look"); intro _ _ _ _ _)
  | ((with_reducible refine fra_app ?_ ?_ ?_ ?_); (focus walk_at "fl.side"); (focus walk_at "fl.side"); (focus walk_at "fl.side"); intro _ _ _ _ _)
  | ((with_reducible apply cmp_app); (focus walk_at "fl.look"); (focus walk_at "fl.look"); (focus assumption); (focus assumption))
  | ((with_reducible apply down2_app); (focus walk_at "fl.look"); (focus assumption); intro _ _ _ _ _ _)
  | ((with_reducible apply near2_app); (focus walk_at "fl.look"); (focus assumption); intro _ _ _ _ _)
  | (with_reducible refine isint_app ?_)
  | (with_reducible refine sameI_app ?_)
  | (with_reducible refine g_callD ?_)
  | ((with_reducible show spRatq _ _ _ _ _); (apply ratq_app); (focus walk_at "fl.side"); (focus walk_at "fl.side"); (focus walk_at "fl.side"); intro _ _ _ _ _)
  | ((with_reducible apply bin_app); (focus walk_at "fl.look"); (focus walk_at "fl.look"); (focus walk_at "fl.md"); (focus walk_at "fl.md"); (focus walk_at "fl.pre"); intro _ _ _ _ _)
  | ((with_reducible apply cq_app); (focus walk_at "fl.look"); (focus walk_at "fl.look"); (focus walk_at "fl.md"); (focus walk_at "fl.md"))
  | ((with_reducible apply nr_app); (focus walk_at "fl.look"); (focus walk_at "fl.md"))
  | ((with_reducible apply ne_app); (focus walk_at "fl.look"); (focus walk_at "fl.look"); (focus walk_at "fl.rat"))
  | (with_reducible refine g_cons ?_)
  | (with_reducible refine g_nil ?_)
  | (with_reducible refine g_tup2 ?_)
  | (with_reducible refine g_tupN ?_)
  | (with_reducible refine g_lstN ?_)
  | (with_reducible refine g_iteT ?_)
  | (with_reducible refine g_iteF ?_)
  | (with_reducible refine g_iteNT ?_)
  | (with_reducible refine g_iteNF ?_)
  | ((with_reducible show ∀ (p : Addr), (_ : Option HO) = none → _); intro _ _))
local macro_rules | `(tactic| walk_at "fl.go") => `(tactic| repeat walk_at "fl.s")
local macro_rules | `(tactic| walk_at "fl.run") => `(tactic| ((repeat walk_at "fl.s"); try (first
  | (refine g_ite (fun _ => ?_) (fun _ => ?_); all_goals walk_at "fl.run")
  | (refine g_iteN (fun _ => ?_) (fun _ => ?_); all_goals walk_at "fl.run"))))

section
variable {P : Program} {w : World} {K : PySem.W.Frag} {mg : Str → Option Value} {base : Heap}
theorem ok_add (T : Txt K mg) : Has P w K mg base 2 "add" ps_add (spBin K (fun x y => x + y) (fun x y => True)) := by
  have h_ratio_2 : HasD P w K mg base 1 "ratio" ps_ratio [] (spRatq K) := hasD_of T.d_ratio sc_ratio 2 1 (by decide) rfl bd_ratio_2 (fun vs H Q E h => by obtain ⟨_, _, rfl, _⟩ := h; rfl) (body_ratio T)
  refine has_of T.d_add sc_add bd_add (fun vs H Q E h => ?_) (fun f cdv A outer s H vs Q E hr h => ?_)
  · obtain ⟨a, b, x, y, rfl, _⟩ := h
    rfl
  · obtain ⟨a, b, x, y, rfl, ha, hb, mx, my, hp, k⟩ := h
    refine ⟨_, (pss_one (ps_ret (pe_hD h_ratio_2 (hr.mono (by decide)) (pa_cons (pe_op op_add (pe_op op_mulW (pe_ix ix_tup (pv 0) pe_int (fun _ _ => rfl)) (pe_ix ix_tup (pv 1) pe_int (fun _ _ => rfl))) (pe_op op_mulW (pe_ix ix_tup (pv 1) pe_int (fun _ _ => rfl)) (pe_ix ix_tup (pv 0) pe_int (fun _ _ => rfl)))) (pa_cons (pe_op op_mulW (pe_ix ix_tup (pv 0) pe_int (fun _ _ => rfl)) (pe_ix ix_tup (pv 1) pe_int (fun _ _ => rfl))) pa_nil))))), ?_⟩
    have ha' := ha.sq
    have hb' := hb.sq
    obtain ⟨x1, x2⟩ := mx.big
    obtain ⟨y1, y2⟩ := my.big
    obtain ⟨c1, c2, c3, c4, c5, c6⟩ := md_cross mx my
    have z0 : (x.den : Int) * y.den ≠ 0 := Int.mul_ne_zero (den0 x) (den0 y)
    walk_at "fl.go"
    rename_i t H' ht hs hv
    rw [add_div] at hv
    exact k t H' ht hs hv
theorem ok_subtract (T : Txt K mg) : Has P w K mg base 2 "subtract" ps_subtract (spBin K (fun x y => x - y) (fun x y => True)) := by
  have h_ratio_2 : HasD P w K mg base 1 "ratio" ps_ratio [] (spRatq K) := hasD_of T.d_ratio sc_ratio 2 1 (by decide) rfl bd_ratio_2 (fun vs H Q E h => by obtain ⟨_, _, rfl, _⟩ := h; rfl) (body_ratio T)
  refine has_of T.d_subtract sc_subtract bd_subtract (fun vs H Q E h => ?_) (fun f cdv A outer s H vs Q E hr h => ?_)
  · obtain ⟨a, b, x, y, rfl, _⟩ := h
    rfl
  · obtain ⟨a, b, x, y, rfl, ha, hb, mx, my, hp, k⟩ := h
    refine ⟨_, (pss_one (ps_ret (pe_hD h_ratio_2 (hr.mono (by decide)) (pa_cons (pe_op op_sub (pe_op op_mulW (pe_ix ix_tup (pv 0) pe_int (fun _ _ => rfl)) (pe_ix ix_tup (pv 1) pe_int (fun _ _ => rfl))) (pe_op op_mulW (pe_ix ix_tup (pv 1) pe_int (fun _ _ => rfl)) (pe_ix ix_tup (pv 0) pe_int (fun _ _ => rfl)))) (pa_cons (pe_op op_mulW (pe_ix ix_tup (pv 0) pe_int (fun _ _ => rfl)) (pe_ix ix_tup (pv 1) pe_int (fun _ _ => rfl))) pa_nil))))), ?_⟩
    have ha' := ha.sq
    have hb' := hb.sq
    obtain ⟨x1, x2⟩ := mx.big
    obtain ⟨y1, y2⟩ := my.big
    obtain ⟨c1, c2, c3, c4, c5, c6⟩ := md_cross mx my
    have z0 : (x.den : Int) * y.den ≠ 0 := Int.mul_ne_zero (den0 x) (den0 y)
    walk_at "fl.go"
    rename_i t H' ht hs hv
    rw [sub_div] at hv
    exact k t H' ht hs hv
theorem ok_multiply (T : Txt K mg) : Has P w K mg base 2 "multiply" ps_multiply (spBin K (fun x y => x * y) (fun x y => True)) := by
  have h_ratio_2 : HasD P w K mg base 1 "ratio" ps_ratio [] (spRatq K) := hasD_of T.d_ratio sc_ratio 2 1 (by decide) rfl bd_ratio_2 (fun vs H Q E h => by obtain ⟨_, _, rfl, _⟩ := h; rfl) (body_ratio T)
  refine has_of T.d_multiply sc_multiply bd_multiply (fun vs H Q E h => ?_) (fun f cdv A outer s H vs Q E hr h => ?_)
  · obtain ⟨a, b, x, y, rfl, _⟩ := h
    rfl
  · obtain ⟨a, b, x, y, rfl, ha, hb, mx, my, hp, k⟩ := h
    refine ⟨_, (pss_one (ps_ret (pe_hD h_ratio_2 (hr.mono (by decide)) (pa_cons (pe_op op_mulW (pe_ix ix_tup (pv 0) pe_int (fun _ _ => rfl)) (pe_ix ix_tup (pv 1) pe_int (fun _ _ => rfl))) (pa_cons (pe_op op_mulW (pe_ix ix_tup (pv 0) pe_int (fun _ _ => rfl)) (pe_ix ix_tup (pv 1) pe_int (fun _ _ => rfl))) pa_nil))))), ?_⟩
    have ha' := ha.sq
    have hb' := hb.sq
    obtain ⟨x1, x2⟩ := mx.big
    obtain ⟨y1, y2⟩ := my.big
    obtain ⟨c1, c2, c3, c4, c5, c6⟩ := md_cross mx my
    have z0 : (x.den : Int) * y.den ≠ 0 := Int.mul_ne_zero (den0 x) (den0 y)
    walk_at "fl.go"
    rename_i t H' ht hs hv
    rw [mul_div'] at hv
    exact k t H' ht hs hv
theorem ok_divide (T : Txt K mg) : Has P w K mg base 2 "divide" ps_divide (spBin K (fun x y => x / y) (fun x y => y ≠ 0)) := by
  have h_ratio_2 : HasD P w K mg base 1 "ratio" ps_ratio [] (spRatq K) := hasD_of T.d_ratio sc_ratio 2 1 (by decide) rfl bd_ratio_2 (fun vs H Q E h => by obtain ⟨_, _, rfl, _⟩ := h; rfl) (body_ratio T)
  refine has_of T.d_divide sc_divide bd_divide (fun vs H Q E h => ?_) (fun f cdv A outer s H vs Q E hr h => ?_)
  · obtain ⟨a, b, x, y, rfl, _⟩ := h
    rfl
  · obtain ⟨a, b, x, y, rfl, ha, hb, mx, my, hp, k⟩ := h
    refine ⟨_, (pss_one (ps_ret (pe_hD h_ratio_2 (hr.mono (by decide)) (pa_cons (pe_op op_mulW (pe_ix ix_tup (pv 0) pe_int (fun _ _ => rfl)) (pe_ix ix_tup (pv 1) pe_int (fun _ _ => rfl))) (pa_cons (pe_op op_mulW (pe_ix ix_tup (pv 0) pe_int (fun _ _ => rfl)) (pe_ix ix_tup (pv 1) pe_int (fun _ _ => rfl))) pa_nil))))), ?_⟩
    have ha' := ha.sq
    have hb' := hb.sq
    obtain ⟨x1, x2⟩ := mx.big
    obtain ⟨y1, y2⟩ := my.big
    obtain ⟨c1, c2, c3, c4, c5, c6⟩ := md_cross mx my
    have z0 : (x.den : Int) * y.num ≠ 0 := Int.mul_ne_zero (den0 x) (num0 hp)
    walk_at "fl.go"
    rename_i t H' ht hs hv
    rw [div_div'] at hv
    exact k t H' ht hs hv
theorem ok_compare (T : Txt K mg) : Has P w K mg base 1 "compare" ps_compare (spCq K) := by
  refine has_of T.d_compare sc_compare bd_compare (fun vs H Q E h => ?_) (fun f cdv A outer s H vs Q E hr h => ?_)
  · obtain ⟨a, b, x, y, rfl, _⟩ := h
    rfl
  · obtain ⟨a, b, x, y, rfl, ha, hb, mx, my, q⟩ := h
    refine ⟨_, (pss_cons (ps_set (i := 2) sc_compare.nd rfl (.inl rfl) (pe_op op_mulW (pe_ix ix_tup (pv 0) pe_int (fun _ _ => rfl)) (pe_ix ix_tup (pv 1) pe_int (fun _ _ => rfl))))
      (pss_cons (ps_set (i := 3) sc_compare.nd rfl (.inl rfl) (pe_op op_mulW (pe_ix ix_tup (pv 1) pe_int (fun _ _ => rfl)) (pe_ix ix_tup (pv 0) pe_int (fun _ _ => rfl))))
      (pss_cons (ps_if (pt_cmpR op_lt (pv 2) (pv 3) (nomark _))
        (pss_one (ps_ret (pe_un un_neg pe_int)))
        pss_nil)
      (pss_cons (ps_if (pt_cmpR op_gt (pv 2) (pv 3) (nomark _))
        (pss_one (ps_ret pe_int))
        pss_nil)
      (pss_one (ps_ret pe_int)))))), ?_⟩
    have ha' := ha.sq
    have hb' := hb.sq
    obtain ⟨x1, x2⟩ := mx.big
    obtain ⟨y1, y2⟩ := my.big
    unfold cq at q
    simp only [Rat.lt_iff] at q
    walk_at "fl.run"
    · rw [if_pos (by assumption)] at q
      exact q
    · rw [if_neg (by assumption), if_pos (by assumption)] at q
      exact q
    · rw [if_neg (by assumption), if_neg (by assumption)] at q
      exact q
theorem ok_nearest (T : Txt K mg) : Has P w K mg base 1 "nearest" ps_nearest (spNr K) := by
  refine has_of T.d_nearest sc_nearest bd_nearest (fun vs H Q E h => ?_) (fun f cdv A outer s H vs Q E hr h => ?_)
  · obtain ⟨a, x, rfl, _⟩ := h
    rfl
  · obtain ⟨a, x, rfl, ha, mx, q⟩ := h
    refine ⟨_, (pss_one (ps_ret (pe_op op_fdivW (pe_op op_add (pe_op op_mul pe_int (pe_ix ix_tup (pv 0) pe_int (fun _ _ => rfl))) (pe_ix ix_tup (pv 0) pe_int (fun _ _ => rfl))) (pe_op op_mul pe_int (pe_ix ix_tup (pv 0) pe_int (fun _ _ => rfl)))))), ?_⟩
    have ha' := ha.sq
    have hp2 : 0 < 2 * (x.den : Int) := by
      have := x.den_pos
      omega
    have hp3 : (2 * (x.den : Int)).natAbs < 2 ^ 4000 := by
      have h2 := mx.d
      have e : 2 * (2 : Nat) ^ 900 < 2 ^ 4000 := by decide +kernel
      omega
    walk_at "fl.run"
    exact q
end
end K07

set_option Elab.async false
set_option linter.all false
set_option maxRecDepth 100000
set_option maxHeartbeats 4000000
set_option exponentiation.threshold 20000
namespace K07
open PySem PySem.Spec PyProof.Rows L2 Fl
-- facts of a place in the heap
local macro_rules | `(tactic| walk_at "fl.ne") => `(tactic| first
  | assumption
  | exact Ne.symm (by assumption)
  | ((with_reducible apply DeckAt.ne'); (focus assumption); walk_at "fl.deck"))
local macro_rules | `(tactic| walk_at "fl.look") => `(tactic| first
  | assumption
  | ((with_reducible show RV _ _ _ _); (with_reducible apply RV.ex1); (focus assumption); (focus walk_at "fl.ne"); walk_at "fl.look")
  | ((with_reducible show RV _ _ _ _); (with_reducible apply RV.same); (focus assumption); walk_at "fl.look")
  | ((with_reducible show RV _ _ _ _); (with_reducible apply RV.same); (focus exact Fl.Same.new (by assumption)); walk_at "fl.look")
  | (with_reducible exact SqL.of upd_same)
  | (with_reducible exact SqT.of upd_same)
  | ((with_reducible apply SqL.of); assumption)
  | ((with_reducible apply SqT.of); assumption)
  | ((with_reducible apply Ex1.l); (focus with_reducible exact Ex1.upd); (focus walk_at "fl.ne"); walk_at "fl.look")
  | ((with_reducible apply Ex1.t); (focus with_reducible exact Ex1.upd); (focus walk_at "fl.ne"); walk_at "fl.look")
  | ((with_reducible apply Same.seq); (focus exact Fl.Same.new (by assumption)); walk_at "fl.look")
  | ((with_reducible apply Fl.Same.t); (focus exact Fl.Same.new (by assumption)); walk_at "fl.look")
  | ((with_reducible apply Ex1.l); (focus assumption); (focus walk_at "fl.ne"); walk_at "fl.look")
  | ((with_reducible apply Ex1.t); (focus assumption); (focus walk_at "fl.ne"); walk_at "fl.look")
  | ((with_reducible apply Same.seq); (focus assumption); walk_at "fl.look")
  | ((with_reducible apply Fl.Same.t); (focus assumption); walk_at "fl.look"))
-- arithmetic that an operation asks
local macro_rules | `(tactic| walk_at "fl.side") => `(tactic| first
  | decide
  | assumption
  | omega
  | (simp only [List.length_cons, List.length_nil]; omega)
  | exact Or.inr (by decide)
  | (refine ⟨?_, ?_, ?_⟩ <;> decide)
  | exact Or.inl (by decide)
  | exact mulW (by first | assumption | omega) (by first | assumption | omega)
  | exact divW (by first | assumption | omega) (by first | assumption | omega)
  | exact divS (by first | assumption | omega) (by first | assumption | omega)
  | exact div62 (by first | assumption | decide | omega) (by first | assumption | decide | omega))
local macro_rules | `(tactic| walk_at "fl.kit") => `(tactic| first | exact kit_int_int | exact kit_int_bool | exact kit_int_tuple | exact kit_int_str | exact kit_int_list | exact kit_int_dict | exact kit_bool_int | exact kit_bool_bool | exact kit_bool_tuple | exact kit_bool_str | exact kit_bool_list | exact kit_bool_dict | exact kit_tuple_int | exact kit_tuple_bool | exact kit_tuple_tuple | exact kit_tuple_str | exact kit_tuple_list | exact kit_tuple_dict | exact kit_str_int | exact kit_str_bool | exact kit_str_tuple | exact kit_str_str | exact kit_str_list | exact kit_str_dict | exact kit_list_int | exact kit_list_bool | exact kit_list_tuple | exact kit_list_str | exact kit_list_list | exact kit_list_dict | exact kit_NoneType_int | exact kit_NoneType_bool | exact kit_NoneType_tuple | exact kit_NoneType_str | exact kit_NoneType_list | exact kit_NoneType_dict | exact kit_dict_int | exact kit_dict_bool | exact kit_dict_tuple | exact kit_dict_str | exact kit_dict_list | exact kit_dict_dict)
local macro_rules | `(tactic| walk_at "fl.ty") => `(tactic| first
  | exact .base (.int _)
  | exact .base (.bl _)
  | exact .base .non
  | exact .base (.str _)
  | exact .base (.tup upd_same)
  | exact .base (.lst upd_same)
  | (apply TyX.base; apply TyOf.tup; assumption)
  | (apply TyX.base; apply TyOf.lst; assumption))
local macro_rules | `(tactic| walk_at "fl.deck") => `(tactic| first
  | assumption
  | (refine DeckAt.same ?_ (Fl.Same.new (by assumption)); walk_at "fl.deck")
  | (refine DeckAt.same ?_ (by assumption); walk_at "fl.deck"))
local macro_rules | `(tactic| walk_at "fl.ex1") => `(tactic| first
  | assumption
  | exact Ex1.refl
  | exact Ex1.upd
  | (refine Ex1.trans ?_ Ex1.upd; walk_at "fl.ex1")
  | (refine Ex1.trans ?_ (Ex1.of (Fl.Same.new (by assumption))); walk_at "fl.ex1")
  | (refine Ex1.trans ?_ (by assumption); walk_at "fl.ex1")
  | (refine Ex1.trans ?_ (Ex1.of (by assumption)); walk_at "fl.ex1"))
local macro_rules | `(tactic| walk_at "fl.pre") => `(tactic| first | assumption | trivial | exact ne_of_num (by assumption))
local macro_rules | `(tactic| walk_at "fl.szq") => `(tactic| first
  | assumption
  | ((with_reducible apply Szq.add); (focus walk_at "fl.szq"); (focus walk_at "fl.szq"))
  | ((with_reducible apply Szq.sub); (focus walk_at "fl.szq"); (focus walk_at "fl.szq"))
  | ((with_reducible apply Szq.mul); (focus walk_at "fl.szq"); (focus walk_at "fl.szq"))
  | ((with_reducible apply Szq.div); (focus walk_at "fl.szq"); (focus walk_at "fl.szq"); (focus walk_at "fl.pre"))
  | exact szq_div (k := 41) (by decide) (by omega) (by decide))
local macro_rules | `(tactic| walk_at "fl.md") => `(tactic| first | assumption | ((with_reducible apply Szq.md); (focus walk_at "fl.szq"); decide))
local macro_rules | `(tactic| walk_at "fl.rat") => `(tactic| first
  | rfl
  | exact Rat.add_comm _ _
  | exact Rat.mul_comm _ _
  | exact Rat.add_assoc _ _ _
  | exact Rat.mul_assoc _ _ _
  | exact Rat.mul_add _ _ _
  | exact Rat.add_sub_cancel
  | exact Rat.mul_div_cancel (ne_of_num (by assumption))
  | exact Rat.div_mul_cancel (ne_of_num (by assumption)))
-- one step of a reading
local macro_rules | `(tactic| walk_at "fl.s") => `(tactic| first
  | (with_reducible refine g_seq ?_)
  | (with_reducible refine g_op ?_)
  | ((with_reducible apply g_var); (focus rfl))
  | (with_reducible refine g_c ?_)
  | (with_reducible refine g_I0 ?_)
  | ((with_reducible apply g_I); (focus walk_at "fl.side"))
  | (with_reducible refine g_U ?_)
  | (with_reducible refine g_un ?_)
  | ((with_reducible apply g_ixL); (focus walk_at "fl.look"); (focus first | assumption | rfl))
  | ((with_reducible apply g_ixT); (focus walk_at "fl.look"); (focus first | assumption | rfl))
  | (with_reducible refine g_cb1 ?_)
  | (with_reducible refine g_cb2 ?_)
  | (with_reducible refine g_int ?_)
  | (with_reducible refine g_intB ?_)
  | (with_reducible refine g_abs ?_)
  | (with_reducible refine g_max ?_)
  | (with_reducible refine g_min ?_)
  | ((with_reducible apply g_lenL); (focus walk_at "fl.look"))
  | ((with_reducible apply g_lenT); (focus walk_at "fl.look"))
  | (with_reducible refine g_gcd ?_)
  | ((with_reducible apply g_isiT); (focus walk_at "fl.ty"); (focus walk_at "fl.kit"))
  | ((with_reducible apply g_listL); (focus walk_at "fl.look"); intro _ _)
  | ((with_reducible refine g_new ?_ ?_); (focus walk_at "fl.side"); intro _ _)
  | ((with_reducible refine g_tup2 ?_))
  | (with_reducible refine g_eqI ?_)
  | (with_reducible refine g_neI ?_)
  | (with_reducible refine g_eqB ?_)
  | (with_reducible refine g_test ?_)
  | (with_reducible refine g_B ?_)
  | (with_reducible refine g_bl ?_)
  | (with_reducible refine g_ex ?_)
  | (with_reducible refine g_not ?_)
  | (with_reducible refine g_and ?_)
  | (with_reducible refine g_or ?_)
  | (with_reducible refine g_andV ?_)
  | (with_reducible refine g_orV ?_)
  | (with_reducible refine g_notV ?_)
  | (with_reducible refine g_next ?_)
  | (with_reducible refine g_ret ?_)
  | (with_reducible refine g_if ?_)
  | (with_reducible refine g_setS ?_)
  | ((with_reducible apply g_setL); (focus first | assumption | exact upd_same); (focus rfl))
  | (with_reducible refine g_set ?_)
  | ((with_reducible apply g_aug); (focus rfl))
  | (with_reducible refine g_ipI ?_)
  | (with_reducible refine g_drop ?_)
  | (with_reducible refine g_call ?_)
  | ((with_reducible refine draw_app ?_ ?_ ?_ ?_); (focus walk_at "fl.deck"); (focus walk_at "fl.side"); (focus walk_at "fl.side"); intro _ _ _ _ _ _)
  | ((with_reducible refine big_app ?_ ?_); (focus walk_at "fl.deck"); intro _ _ _ _ _ _ _ _ _)
  | ((with_reducible apply deck_app); (focus walk_at "fl.look"); intro _ _ _ _ _)
  | ((with_reducible refine fra_app ?_ ?_ ?_ ?_); (focus walk_at "fl.side"); (focus walk_at "fl.side"); (focus walk_at "fl.side"); intro _ _ _ _ _)
  | ((with_reducible apply cmp_app); (focus walk_at "fl.look"); (focus walk_at "fl.look"); (focus assumption); (focus assumption))
  | ((with_reducible apply down2_app); (focus walk_at "fl.look"); (focus assumption); intro _ _ _ _ _ _)
  | ((with_reducible apply near2_app); (focus walk_at "fl.look"); (focus assumption); intro _ _ _ _ _)
  | (with_reducible refine isint_app ?_)
  | (with_reducible refine sameI_app ?_)
  | (with_reducible refine g_callD ?_)
  | ((with_reducible show spRatq _ _ _ _ _); (apply ratq_app); (focus walk_at "fl.side"); (focus walk_at "fl.side"); (focus walk_at "fl.side"); intro _ _ _ _ _)
  | ((with_reducible apply bin_app); (focus walk_at "fl.look"); (focus walk_at "fl.look"); (focus walk_at "fl.md"); (focus walk_at "fl.md"); (focus walk_at "fl.pre"); intro _ _ _ _ _)
  | ((with_reducible apply cq_app); (focus walk_at "fl.look"); (focus walk_at "fl.look"); (focus walk_at "fl.md"); (focus walk_at "fl.md"))
  | ((with_reducible apply nr_app); (focus walk_at "fl.look"); (focus walk_at "fl.md"))
  | ((with_reducible apply ne_app); (focus walk_at "fl.look"); (focus walk_at "fl.look"); (focus walk_at "fl.rat"))
  | (with_reducible refine g_cons ?_)
  | (with_reducible refine g_nil ?_)
  | (with_reducible refine g_tup2 ?_)
  | (with_reducible refine g_tupN ?_)
  | (with_reducible refine g_lstN ?_)
  | (with_reducible refine g_iteT ?_)
  | (with_reducible refine g_iteF ?_)
  | (with_reducible refine g_iteNT ?_)
  | (with_reducible refine g_iteNF ?_)
  | ((with_reducible show ∀ (p : Addr), (_ : Option HO) = none → _); intro _ _))
local macro_rules | `(tactic| walk_at "fl.go") => `(tactic| repeat walk_at "fl.s")
local macro_rules | `(tactic| walk_at "fl.run") => `(tactic| ((repeat walk_at "fl.s"); try (first
  | (refine g_ite (fun _ => ?_) (fun _ => ?_); all_goals walk_at "fl.run")
  | (refine g_iteN (fun _ => ?_) (fun _ => ?_); all_goals walk_at "fl.run"))))

local macro_rules | `(tactic| walk_at "fl.s") => `(tactic| ((with_reducible refine bigq_app ?_ ?_); (focus walk_at "fl.deck"); intro _ _ _ _ _ _ _ _))
section
variable {P : Program} {w : World} {K : PySem.W.Frag} {mg : Str → Option Value} {base : Heap}
def spLaw (K : PySem.W.Frag) : Sp := fun vs H Q _ => ∃ (a : Addr) (ns : List Int), vs = [.ref a] ∧ SqL K H a (ns.map V.int) ∧ ns.length ≤ 63 ∧ ∀ H', Q (.bl true) H'
theorem ok_law (T : Txt K mg) {f : Addr} {fd : FuncData} (F : Fun K "law" "law" s_law f fd) : FnOk P w K mg base CX0 9 f fd ps_law (spLaw K) := by
  have h_law_draw := ok_law_draw (P := P) (w := w) (base := base) T
  have h_law_deck := ok_law_deck (P := P) (w := w) (base := base) T
  have h_law_big := ok_law_big (P := P) (w := w) (base := base) T
  have h_law_same := ok_law_same (P := P) (w := w) (base := base) T
  have h_add := ok_add (P := P) (w := w) (base := base) T
  have h_subtract := ok_subtract (P := P) (w := w) (base := base) T
  have h_multiply := ok_multiply (P := P) (w := w) (base := base) T
  have h_divide := ok_divide (P := P) (w := w) (base := base) T
  have h_compare := ok_compare (P := P) (w := w) (base := base) T
  have h_nearest := ok_nearest (P := P) (w := w) (base := base) T
  have h_ratio_1 : HasD P w K mg base 1 "ratio" ps_ratio [.int 1] (spRatq K) := hasD_of T.d_ratio sc_ratio 1 0 (by decide) rfl bd_ratio_1 (fun vs H Q E h => by obtain ⟨_, _, rfl, _⟩ := h; rfl) (body_ratio T)
  refine fnok_of F sc_law (fun vs H Q E h => ?_) (fun f cdv A outer s H vs Q E hr h => ?_)
  · obtain ⟨a, ns, rfl, _⟩ := h
    rfl
  · obtain ⟨a, ns, rfl, hS, hlen, q⟩ := h
    refine ⟨_, (pss_cons (ps_set (i := 1) sc_law.nd rfl (.inl rfl) (pe_h h_law_deck (hr.mono (by decide)) (pa_cons (pv 0) pa_nil)))
      (pss_cons (ps_set (i := 2) sc_law.nd rfl (.inl rfl) (pe_h h_law_big (hr.mono (by decide)) (pa_cons (pv 1) pa_nil)))
      (pss_cons (ps_set (i := 3) sc_law.nd rfl (.inl rfl) (pe_h h_law_big (hr.mono (by decide)) (pa_cons (pv 1) pa_nil)))
      (pss_cons (ps_set (i := 4) sc_law.nd rfl (.inl rfl) (pe_h h_law_big (hr.mono (by decide)) (pa_cons (pv 1) pa_nil)))
      (pss_cons (ps_if (PW.pt (pw_or (pt_cmpR (op_neD hr.units) (pe_h h_add (hr.mono (by decide)) (pa_cons (pv 2) (pa_cons (pv 3) pa_nil))) (pe_h h_add (hr.mono (by decide)) (pa_cons (pv 3) (pa_cons (pv 2) pa_nil))) (nomark _)) (pw_or (pt_cmpR (op_neD hr.units) (pe_h h_add (hr.mono (by decide)) (pa_cons (pe_h h_add (hr.mono (by decide)) (pa_cons (pv 2) (pa_cons (pv 3) pa_nil))) (pa_cons (pv 4) pa_nil))) (pe_h h_add (hr.mono (by decide)) (pa_cons (pv 2) (pa_cons (pe_h h_add (hr.mono (by decide)) (pa_cons (pv 3) (pa_cons (pv 4) pa_nil))) pa_nil))) (nomark _)) (pw_or1 (pt_cmpR (op_neD hr.units) (pe_h h_subtract (hr.mono (by decide)) (pa_cons (pe_h h_add (hr.mono (by decide)) (pa_cons (pv 2) (pa_cons (pv 3) pa_nil))) (pa_cons (pv 3) pa_nil))) (pv 2) (nomark _))))))
        (pss_one (ps_ret pe_bl))
        pss_nil)
      (pss_cons (ps_if (PW.pt (pw_or (pt_cmpR (op_neD hr.units) (pe_h h_multiply (hr.mono (by decide)) (pa_cons (pv 2) (pa_cons (pv 3) pa_nil))) (pe_h h_multiply (hr.mono (by decide)) (pa_cons (pv 3) (pa_cons (pv 2) pa_nil))) (nomark _)) (pw_or1 (pt_cmpR (op_neD hr.units) (pe_h h_multiply (hr.mono (by decide)) (pa_cons (pe_h h_multiply (hr.mono (by decide)) (pa_cons (pv 2) (pa_cons (pv 3) pa_nil))) (pa_cons (pv 4) pa_nil))) (pe_h h_multiply (hr.mono (by decide)) (pa_cons (pv 2) (pa_cons (pe_h h_multiply (hr.mono (by decide)) (pa_cons (pv 3) (pa_cons (pv 4) pa_nil))) pa_nil))) (nomark _)))))
        (pss_one (ps_ret pe_bl))
        pss_nil)
      (pss_cons (ps_if (pt_cmpR (op_neD hr.units) (pe_h h_multiply (hr.mono (by decide)) (pa_cons (pv 2) (pa_cons (pe_h h_add (hr.mono (by decide)) (pa_cons (pv 3) (pa_cons (pv 4) pa_nil))) pa_nil))) (pe_h h_add (hr.mono (by decide)) (pa_cons (pe_h h_multiply (hr.mono (by decide)) (pa_cons (pv 2) (pa_cons (pv 3) pa_nil))) (pa_cons (pe_h h_multiply (hr.mono (by decide)) (pa_cons (pv 2) (pa_cons (pv 4) pa_nil))) pa_nil))) (nomark _))
        (pss_one (ps_ret pe_bl))
        pss_nil)
      (pss_cons (ps_if (PW.pt (pw_and (pt_cmpR op_ne (pe_ix ix_tup (pv 3) pe_int (fun _ _ => rfl)) pe_int (nomark _)) (pw_and1 (PW.pt (pw_or (pt_cmpR (op_neD hr.units) (pe_h h_divide (hr.mono (by decide)) (pa_cons (pe_h h_multiply (hr.mono (by decide)) (pa_cons (pv 2) (pa_cons (pv 3) pa_nil))) (pa_cons (pv 3) pa_nil))) (pv 2) (nomark _)) (pw_or1 (pt_cmpR (op_neD hr.units) (pe_h h_multiply (hr.mono (by decide)) (pa_cons (pe_h h_divide (hr.mono (by decide)) (pa_cons (pv 2) (pa_cons (pv 3) pa_nil))) (pa_cons (pv 3) pa_nil))) (pv 2) (nomark _))))))))
        (pss_one (ps_ret pe_bl))
        pss_nil)
      (pss_cons (ps_if (pt_cmpR op_ne (pe_h h_compare (hr.mono (by decide)) (pa_cons (pe_h h_add (hr.mono (by decide)) (pa_cons (pv 2) (pa_cons (pv 4) pa_nil))) (pa_cons (pe_h h_add (hr.mono (by decide)) (pa_cons (pv 3) (pa_cons (pv 4) pa_nil))) pa_nil))) (pe_h h_compare (hr.mono (by decide)) (pa_cons (pv 2) (pa_cons (pv 3) pa_nil))) (nomark _))
        (pss_one (ps_ret pe_bl))
        pss_nil)
      (pss_cons (ps_set (i := 5) sc_law.nd rfl (.inl rfl) (pe_h h_law_draw (hr.mono (by decide)) (pa_cons (pv 1) (pa_cons (pe_powc (r := 1000000) (by decide) (by decide +kernel)) pa_nil))))
      (pss_one (ps_ret (pe_h h_law_same (hr.mono (by decide)) (pa_cons (pe_h h_nearest (hr.mono (by decide)) (pa_cons (pe_h h_add (hr.mono (by decide)) (pa_cons (pv 2) (pa_cons (pe_hD h_ratio_1 (hr.mono (by decide)) (pa_cons (pv 5) pa_nil)) pa_nil))) pa_nil)) (pa_cons (pe_op op_add (pe_h h_nearest (hr.mono (by decide)) (pa_cons (pv 2) pa_nil)) (pv 5)) pa_nil))))))))))))))), ?_⟩
    walk_at "fl.run"
    all_goals (first
      | exact q _
      | exact of_dec (nr_add _ _) (q _)
      | exact absurd (cq_add _ _ _) (by assumption)
      | (exfalso; omega))
end
theorem all_mk {l : PySem.W.OpenLaw} {w : World} {K : PySem.W.Frag} {h : Heap} {mg : Str → Option Value} {fa : Addr} (X : K.In h) (G : h.Ns mainGlobals mg) (hfa : mg "law" = some (.ref fa))
    {od0 an0 : Option Addr} {sl0 : Array (Option Value)} {oc0 kV0 dc0 pm0 cd0 ct0 : Value} {f0 : Addr} {TT0 : Addr} {od0_ : Option Addr} {sl0_ : Array (Option Value)} {oc0_ : Value} {nn0 : Nat} {tk0_0 : Tok}
    (a0 : PySem.W.nsIn K mainGlobals "ratio" = some (some (.ref f0))) (l0 : K.lookup f0 = some ⟨oc0, od0, .func (PySem.W.fnOf "ratio" "ratio" (defArgs s_ratio) (defBody s_ratio) (defScope s_ratio) (.ref TT0) kV0 dc0 pm0 an0 cd0 ct0), sl0⟩) (c0 : PySem.W.codeIn K cd0 "ratio" = true) (k0 : PySem.W.keepIn K (.ref f0) = true) (t0 : K.lookup TT0 = some ⟨oc0_, od0_, .seq #[.int 1 tk0_0] nn0, sl0_⟩)
    {od1 an1 : Option Addr} {sl1 : Array (Option Value)} {oc1 kV1 dc1 pm1 cd1 ct1 : Value} {f1 : Addr}
    (a1 : PySem.W.nsIn K mainGlobals "add" = some (some (.ref f1))) (l1 : K.lookup f1 = some ⟨oc1, od1, .func (PySem.W.fnOf "add" "add" (defArgs s_add) (defBody s_add) (defScope s_add) .none kV1 dc1 pm1 an1 cd1 ct1), sl1⟩) (c1 : PySem.W.codeIn K cd1 "add" = true) (k1 : PySem.W.keepIn K (.ref f1) = true)
    {od2 an2 : Option Addr} {sl2 : Array (Option Value)} {oc2 kV2 dc2 pm2 cd2 ct2 : Value} {f2 : Addr}
    (a2 : PySem.W.nsIn K mainGlobals "subtract" = some (some (.ref f2))) (l2 : K.lookup f2 = some ⟨oc2, od2, .func (PySem.W.fnOf "subtract" "subtract" (defArgs s_subtract) (defBody s_subtract) (defScope s_subtract) .none kV2 dc2 pm2 an2 cd2 ct2), sl2⟩) (c2 : PySem.W.codeIn K cd2 "subtract" = true) (k2 : PySem.W.keepIn K (.ref f2) = true)
    {od3 an3 : Option Addr} {sl3 : Array (Option Value)} {oc3 kV3 dc3 pm3 cd3 ct3 : Value} {f3 : Addr}
    (a3 : PySem.W.nsIn K mainGlobals "multiply" = some (some (.ref f3))) (l3 : K.lookup f3 = some ⟨oc3, od3, .func (PySem.W.fnOf "multiply" "multiply" (defArgs s_multiply) (defBody s_multiply) (defScope s_multiply) .none kV3 dc3 pm3 an3 cd3 ct3), sl3⟩) (c3 : PySem.W.codeIn K cd3 "multiply" = true) (k3 : PySem.W.keepIn K (.ref f3) = true)
    {od4 an4 : Option Addr} {sl4 : Array (Option Value)} {oc4 kV4 dc4 pm4 cd4 ct4 : Value} {f4 : Addr}
    (a4 : PySem.W.nsIn K mainGlobals "divide" = some (some (.ref f4))) (l4 : K.lookup f4 = some ⟨oc4, od4, .func (PySem.W.fnOf "divide" "divide" (defArgs s_divide) (defBody s_divide) (defScope s_divide) .none kV4 dc4 pm4 an4 cd4 ct4), sl4⟩) (c4 : PySem.W.codeIn K cd4 "divide" = true) (k4 : PySem.W.keepIn K (.ref f4) = true)
    {od5 an5 : Option Addr} {sl5 : Array (Option Value)} {oc5 kV5 dc5 pm5 cd5 ct5 : Value} {f5 : Addr}
    (a5 : PySem.W.nsIn K mainGlobals "compare" = some (some (.ref f5))) (l5 : K.lookup f5 = some ⟨oc5, od5, .func (PySem.W.fnOf "compare" "compare" (defArgs s_compare) (defBody s_compare) (defScope s_compare) .none kV5 dc5 pm5 an5 cd5 ct5), sl5⟩) (c5 : PySem.W.codeIn K cd5 "compare" = true) (k5 : PySem.W.keepIn K (.ref f5) = true)
    {od6 an6 : Option Addr} {sl6 : Array (Option Value)} {oc6 kV6 dc6 pm6 cd6 ct6 : Value} {f6 : Addr}
    (a6 : PySem.W.nsIn K mainGlobals "nearest" = some (some (.ref f6))) (l6 : K.lookup f6 = some ⟨oc6, od6, .func (PySem.W.fnOf "nearest" "nearest" (defArgs s_nearest) (defBody s_nearest) (defScope s_nearest) .none kV6 dc6 pm6 an6 cd6 ct6), sl6⟩) (c6 : PySem.W.codeIn K cd6 "nearest" = true) (k6 : PySem.W.keepIn K (.ref f6) = true)
    {od7 an7 : Option Addr} {sl7 : Array (Option Value)} {oc7 kV7 dc7 pm7 cd7 ct7 : Value} {f7 : Addr}
    (a7 : PySem.W.nsIn K mainGlobals "_law_deck" = some (some (.ref f7))) (l7 : K.lookup f7 = some ⟨oc7, od7, .func (PySem.W.fnOf "_law_deck" "_law_deck" (defArgs s_law_deck) (defBody s_law_deck) (defScope s_law_deck) .none kV7 dc7 pm7 an7 cd7 ct7), sl7⟩) (c7 : PySem.W.codeIn K cd7 "_law_deck" = true) (k7 : PySem.W.keepIn K (.ref f7) = true)
    {od8 an8 : Option Addr} {sl8 : Array (Option Value)} {oc8 kV8 dc8 pm8 cd8 ct8 : Value} {f8 : Addr}
    (a8 : PySem.W.nsIn K mainGlobals "_law_draw" = some (some (.ref f8))) (l8 : K.lookup f8 = some ⟨oc8, od8, .func (PySem.W.fnOf "_law_draw" "_law_draw" (defArgs s_law_draw) (defBody s_law_draw) (defScope s_law_draw) .none kV8 dc8 pm8 an8 cd8 ct8), sl8⟩) (c8 : PySem.W.codeIn K cd8 "_law_draw" = true) (k8 : PySem.W.keepIn K (.ref f8) = true)
    {od9 an9 : Option Addr} {sl9 : Array (Option Value)} {oc9 kV9 dc9 pm9 cd9 ct9 : Value} {f9 : Addr}
    (a9 : PySem.W.nsIn K mainGlobals "_law_same" = some (some (.ref f9))) (l9 : K.lookup f9 = some ⟨oc9, od9, .func (PySem.W.fnOf "_law_same" "_law_same" (defArgs s_law_same) (defBody s_law_same) (defScope s_law_same) .none kV9 dc9 pm9 an9 cd9 ct9), sl9⟩) (c9 : PySem.W.codeIn K cd9 "_law_same" = true) (k9 : PySem.W.keepIn K (.ref f9) = true)
    {od10 an10 : Option Addr} {sl10 : Array (Option Value)} {oc10 kV10 dc10 pm10 cd10 ct10 : Value} {f10 : Addr}
    (a10 : PySem.W.nsIn K mainGlobals "_law_gcd" = some (some (.ref f10))) (l10 : K.lookup f10 = some ⟨oc10, od10, .func (PySem.W.fnOf "_law_gcd" "_law_gcd" (defArgs s_law_gcd) (defBody s_law_gcd) (defScope s_law_gcd) .none kV10 dc10 pm10 an10 cd10 ct10), sl10⟩) (c10 : PySem.W.codeIn K cd10 "_law_gcd" = true) (k10 : PySem.W.keepIn K (.ref f10) = true)
    {od11 an11 : Option Addr} {sl11 : Array (Option Value)} {oc11 kV11 dc11 pm11 cd11 ct11 : Value} {f11 : Addr}
    (a11 : PySem.W.nsIn K mainGlobals "_law_ratio" = some (some (.ref f11))) (l11 : K.lookup f11 = some ⟨oc11, od11, .func (PySem.W.fnOf "_law_ratio" "_law_ratio" (defArgs s_law_ratio) (defBody s_law_ratio) (defScope s_law_ratio) .none kV11 dc11 pm11 an11 cd11 ct11), sl11⟩) (c11 : PySem.W.codeIn K cd11 "_law_ratio" = true) (k11 : PySem.W.keepIn K (.ref f11) = true)
    {od12 an12 : Option Addr} {sl12 : Array (Option Value)} {oc12 kV12 dc12 pm12 cd12 ct12 : Value} {f12 : Addr}
    (a12 : PySem.W.nsIn K mainGlobals "_law_big" = some (some (.ref f12))) (l12 : K.lookup f12 = some ⟨oc12, od12, .func (PySem.W.fnOf "_law_big" "_law_big" (defArgs s_law_big) (defBody s_law_big) (defScope s_law_big) .none kV12 dc12 pm12 an12 cd12 ct12), sl12⟩) (c12 : PySem.W.codeIn K cd12 "_law_big" = true) (k12 : PySem.W.keepIn K (.ref f12) = true)
    {od13 an13 : Option Addr} {sl13 : Array (Option Value)} {oc13 kV13 dc13 pm13 cd13 ct13 : Value} {f13 : Addr}
    (a13 : PySem.W.nsIn K mainGlobals "law" = some (some (.ref f13))) (l13 : K.lookup f13 = some ⟨oc13, od13, .func (PySem.W.fnOf "law" "law" (defArgs s_law) (defBody s_law) (defScope s_law) .none kV13 dc13 pm13 an13 cd13 ct13), sl13⟩) (c13 : PySem.W.codeIn K cd13 "law" = true) (k13 : PySem.W.keepIn K (.ref f13) = true)
    (z_abs : PySem.W.nsIn K mainGlobals "abs" = some none)
    (z_bool : PySem.W.nsIn K mainGlobals "bool" = some none)
    (z_int : PySem.W.nsIn K mainGlobals "int" = some none)
    (z_isinstance : PySem.W.nsIn K mainGlobals "isinstance" = some none)
    (z_len : PySem.W.nsIn K mainGlobals "len" = some none)
    (z_list : PySem.W.nsIn K mainGlobals "list" = some none)
    (z_range : PySem.W.nsIn K mainGlobals "range" = some none)
    (z_str : PySem.W.nsIn K mainGlobals "str" = some none)
    (z_tuple : PySem.W.nsIn K mainGlobals "tuple" = some none)
    (g_gcd : PySem.W.nsIn K mainGlobals "gcd" = some (some (.builtin "math.gcd"))) :
    ∃ fd : FuncData, (∀ (s : Shared) (v : Value), BindsTo s fd ⟨[v], []⟩ [("script", v)]) ∧ ∀ base : Heap, K.In base → base.Ns mainGlobals mg → FnOk l.prog w K mg base CX0 9 fa fd ["script"] (spLaw K) := by
  have e := hfa.symm.trans (PySem.W.mg_of X G a13)
  cases e
  have T : Txt K mg := ⟨PySem.W.mg_none_of X G z_abs, PySem.W.mg_none_of X G z_bool, PySem.W.mg_none_of X G z_int, PySem.W.mg_none_of X G z_isinstance, PySem.W.mg_none_of X G z_len, PySem.W.mg_none_of X G z_list, PySem.W.mg_none_of X G z_range, PySem.W.mg_none_of X G z_str, PySem.W.mg_none_of X G z_tuple, PySem.W.mg_of X G g_gcd, ⟨_, _, ⟨⟨_, _, _, _, _, _, _, _, _, _, rfl, l0, c0, .inr ⟨List.cons_ne_nil _ _, _, _, [_], _, rfl, t0, rfl, .cons ⟨_, rfl⟩ .nil⟩, .inl rfl⟩, k0⟩, PySem.W.mg_of X G a0⟩, ⟨_, _, fun_mk l1 c1 k1, PySem.W.mg_of X G a1⟩, ⟨_, _, fun_mk l2 c2 k2, PySem.W.mg_of X G a2⟩, ⟨_, _, fun_mk l3 c3 k3, PySem.W.mg_of X G a3⟩, ⟨_, _, fun_mk l4 c4 k4, PySem.W.mg_of X G a4⟩, ⟨_, _, fun_mk l5 c5 k5, PySem.W.mg_of X G a5⟩, ⟨_, _, fun_mk l6 c6 k6, PySem.W.mg_of X G a6⟩, ⟨_, _, fun_mk l7 c7 k7, PySem.W.mg_of X G a7⟩, ⟨_, _, fun_mk l8 c8 k8, PySem.W.mg_of X G a8⟩, ⟨_, _, fun_mk l9 c9 k9, PySem.W.mg_of X G a9⟩, ⟨_, _, fun_mk l10 c10 k10, PySem.W.mg_of X G a10⟩, ⟨_, _, fun_mk l11 c11 k11, PySem.W.mg_of X G a11⟩, ⟨_, _, fun_mk l12 c12 k12, PySem.W.mg_of X G a12⟩, ⟨_, _, fun_mk l13 c13 k13, PySem.W.mg_of X G a13⟩⟩
  exact ⟨PySem.W.fnOf "law" "law" (defArgs s_law) (defBody s_law) (defScope s_law) .none kV13 dc13 pm13 an13 cd13 ct13, fun s v => .of_eq rfl, fun base _ _ => ok_law T (fun_mk l13 c13 k13)⟩
end K07
open PySem PySem.W PyProof.Rows
set_option maxHeartbeats 0 in
theorem PySem.Challenge.cw_fleuron_k07_whole_field_of_fractions_holds : PySem.Challenge.rw_fleuron_k07_whole_field_of_fractions.Holds := by
  w_on; o_law; k_head; (case hw => w_witness2)
  k_fill
  refine L2.walk_of (l := PySem.Challenge.rw_fleuron_k07_whole_field_of_fractions) (n := 63) (k := 9) (x := "script") (CX := fun _ => L2.CX0) (sp := fun w => K07.spLaw _) rfl (by decide) rfl ⟨rfl, by decide, by decide⟩ (fun w h Y => PySem.W.kIn_of Y) ?F (fun _ _ a ns hl _ hS => ⟨a, ns, rfl, hS, hl, fun _ => rfl⟩) (fun _ _ _ _ _ h => h)
  case F =>
    intro w mg fa h KX G hmg
    refine' K07.all_mk KX G hmg ?a0 ?l0 ?c0 ?k0 ?t0 ?a1 ?l1 ?c1 ?k1 ?a2 ?l2 ?c2 ?k2 ?a3 ?l3 ?c3 ?k3 ?a4 ?l4 ?c4 ?k4 ?a5 ?l5 ?c5 ?k5 ?a6 ?l6 ?c6 ?k6 ?a7 ?l7 ?c7 ?k7 ?a8 ?l8 ?c8 ?k8 ?a9 ?l9 ?c9 ?k9 ?a10 ?l10 ?c10 ?k10 ?a11 ?l11 ?c11 ?k11 ?a12 ?l12 ?c12 ?k12 ?a13 ?l13 ?c13 ?k13 ?z_abs ?z_bool ?z_int ?z_isinstance ?z_len ?z_list ?z_range ?z_str ?z_tuple ?g_gcd
    (case a0 => k_is); (case l0 => k_is); (case c0 => k_is); (case k0 => k_is); (case t0 => k_is); (case a1 => k_is); (case l1 => k_is); (case c1 => k_is); (case k1 => k_is); (case a2 => k_is); (case l2 => k_is); (case c2 => k_is); (case k2 => k_is); (case a3 => k_is); (case l3 => k_is); (case c3 => k_is); (case k3 => k_is); (case a4 => k_is); (case l4 => k_is); (case c4 => k_is); (case k4 => k_is); (case a5 => k_is); (case l5 => k_is); (case c5 => k_is); (case k5 => k_is); (case a6 => k_is); (case l6 => k_is); (case c6 => k_is); (case k6 => k_is); (case a7 => k_is); (case l7 => k_is); (case c7 => k_is); (case k7 => k_is); (case a8 => k_is); (case l8 => k_is); (case c8 => k_is); (case k8 => k_is); (case a9 => k_is); (case l9 => k_is); (case c9 => k_is); (case k9 => k_is); (case a10 => k_is); (case l10 => k_is); (case c10 => k_is); (case k10 => k_is); (case a11 => k_is); (case l11 => k_is); (case c11 => k_is); (case k11 => k_is); (case a12 => k_is); (case l12 => k_is); (case c12 => k_is); (case k12 => k_is); (case a13 => k_is); (case l13 => k_is); (case c13 => k_is); (case k13 => k_is); (case z_abs => k_is); (case z_bool => k_is); (case z_int => k_is); (case z_isinstance => k_is); (case z_len => k_is); (case z_list => k_is); (case z_range => k_is); (case z_str => k_is); (case z_tuple => k_is); (case g_gcd => k_is)

