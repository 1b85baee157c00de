import PyProof.Rows.All
import Wide.All
import OpenK.AllK
import Wide.FinOn
import HandS.ForMost
import HandS.Wide
import HandS.IsInst
import HandS.Gcd
import HandS.Defaults
import HandS.Comp
import HandS.Zip
import HandS.Iter
import HandS.Style
import PyProof.ReprRoads
import PyProof.ReprLen
import HandS.Rev
import HandS.ForExc
import HandS.ExcInit
import HandS.ExcIs
import HandS.TryMany
import HandS.MakeKwOnly
import HandS.FStr
import HandS.ExcField
import HandS.Head2
import HandS.Head3
import HandS.HeadEnd
import HandS.HeadHook3
import HandS.Nested
import HandS.HeadWalk
import HandS.Dict
import HandS.WordsDict
import HandS.Flow
import HandS.More
import HandS.TryOnly
import HandS.Walk
import HandS.TupSets
import PySem.Challenge.RW_fleuron_k22_lookups_one_after_another
set_option Elab.async false
set_option linter.all false
set_option maxRecDepth 100000
set_option maxHeartbeats 4000000
namespace Fl
open PySem PySem.Spec PyProof.Rows L2

/-! ### defs of the text, and what they promise -/
structure DefIn (K : PySem.W.Frag) (mg : Str → Option Value) (x : Str) (st : Stmt) : Prop where
  ex : ∃ (f : Addr) (fd : FuncData), Fun K x x st f fd ∧ mg x = some (.ref f)

structure Has (P : Program) (w : World) (K : PySem.W.Frag) (mg : Str → Option Value) (base : Heap) (k : Nat) (x : Str) (ps : List Str) (sp : Sp) : Prop where
  ex : ∃ (f : Addr) (fd : FuncData), FnOk P w K mg base CX0 k f fd ps sp ∧ mg x = some (.ref f) ∧ PySem.W.keepIn K (.ref f) = true ∧ Binds K fd ps []

section
variable {P : Program} {w : World} {K : PySem.W.Frag} {mg : Str → Option Value} {base : Heap}
theorem Has.mono {j k : Nat} {x : Str} {ps : List Str} {sp : Sp} (h : Has P w K mg base j x ps sp) (e : j ≤ k) : Has P w K mg base k x ps sp := by
  obtain ⟨f, fd, a, b, c, d⟩ := h.ex
  exact ⟨f, fd, a.mono e, b, c, d⟩
/-- the context of a def's body -/
abbrev bx (P : Program) (w : World) (K : PySem.W.Frag) (mg : Str → Option Value) (base : Heap) (N : List Str) (x : Str) (st : Stmt) (f : Addr) (cdv : Value) (A : Around) (outer : List Env) (s : Shared) (H : Hp) (E : XK) : Cx :=
  (cxOf CX0 P w K mg base N x (defScope st) f cdv A outer s H E).nox
theorem fnok_of {x : Str} {st : Stmt} {N ps : List Str} {k : Nat} {sp : Sp} {f : Addr} {fd : FuncData} (F : Fun K x x st f fd) (S : FnScope N ps (defScope st))
    (len : ∀ vs H Q E, sp vs H Q E → vs.length = ps.length)
    (hbody : ∀ (f : Addr) (cdv : Value) (A : Around) (outer : List Env) (s : Shared) (H : Hp) (vs : List V) (Q : VK) (E : XK), Room k (A.deeper (envOfC x (defScope st) s.heap.objs.size f cdv)) → sp vs H Q E →
      ∃ t, PSs (bx P w K mg base N x st f cdv A outer s H E) (defBody st) t ∧ t { nx := fun _ H' => Q .non H', rt := Q } (start N vs) H) : FnOk P w K mg base CX0 (k + 1) f fd ps sp :=
  F.ok S len fun cdv A outer s H vs Q E hr h => hbody f cdv A outer s H vs Q E hr h
theorem has_of {x : Str} {st : Stmt} {N ps : List Str} {k : Nat} {sp : Sp} (D : DefIn K mg x st) (S : FnScope N ps (defScope st))
    (hb : ∀ (kV doc pm : Value) (an : Option Addr) (cdv ct : Value) (us : List Value), us.length = ps.length → bindArgs (PySem.W.fnOf x x (defArgs st) (defBody st) (defScope st) .none kV doc pm an cdv ct) ⟨us, []⟩ = pure (ps.zip us))
    (len : ∀ vs H Q E, sp vs H Q E → vs.length = ps.length)
    (hbody : ∀ (f : Addr) (cdv : Value) (A : Around) (outer : List Env) (s : Shared) (H : Hp) (vs : List V) (Q : VK) (E : XK), Room k (A.deeper (envOfC x (defScope st) s.heap.objs.size f cdv)) → sp vs H Q E →
      ∃ t, PSs (bx P w K mg base N x st f cdv A outer s H E) (defBody st) t ∧ t { nx := fun _ H' => Q .non H', rt := Q } (start N vs) H) : Has P w K mg base (k + 1) x ps sp := by
  obtain ⟨f, fd, F, m⟩ := D.ex
  exact ⟨f, fd, fnok_of F S len hbody, m, F.kp, F.binds hb⟩
end
section
variable {X : Cx}
theorem pe_h {k : Nat} {x : Str} {ps : List Str} {sp : Sp} {e : Expr} {es : List Expr} {t : TA} {p pos : Pos} (h : Has X.prog X.w X.K X.mg X.base k x ps sp) (hr : Room k X.A) (ha : PA X (e :: es) t) (hg : Gl X x := by rfl)
    (hdb : (x == ("__debug__" : Str)) = false := by decide) (he : starEach (e :: es) X.env = (false, eval e X.env) :: starEach es X.env := by rfl) (hpl : (backTo pos (starEach es X.env)).any (·.1) = false := by rfl) :
    PE X (.Call (.Name x p) (e :: es) [] pos) (tCall sp [] E0 t) := by
  obtain ⟨f, fd, a, b, c, d⟩ := h.ex
  exact pe_call a hr hg b c d .nil pass0 ha hdb he hpl
end

/-! ### heaps: all stands but at one address -/
def Ex1 (d : Addr) (H H' : Hp) : Prop := ∀ a o, a ≠ d → H a = some o → H' a = some o
theorem Ex1.refl {d : Addr} {H : Hp} : Ex1 d H H := fun _ _ _ h => h
theorem Ex1.trans {d : Addr} {H H1 H2 : Hp} (a : Ex1 d H H1) (b : Ex1 d H1 H2) : Ex1 d H H2 := fun x o n h => b x o n (a x o n h)
theorem Ex1.upd {d : Addr} {H : Hp} {o : HO} : Ex1 d H (upd H d o) := fun a u n h => by rw [upd_ne n]; exact h
theorem Ex1.of {d : Addr} {H H' : Hp} (h : Same H H') : Ex1 d H H' := fun a o _ e => h a o e
theorem Ex1.rd {d : Addr} {H H' : Hp} {a : Addr} {u : HO} (e : Ex1 d H H') (n : a ≠ d) (h : Rd H a u) : Rd H' a u := by
  rcases h with h | ⟨o, h⟩
  · exact Or.inl (e a _ n h)
  · exact Or.inr ⟨o, e a _ n h⟩
theorem Ex1.l {K : PySem.W.Frag} {d : Addr} {H H' : Hp} {a : Addr} {xs : List V} (e : Ex1 d H H') (n : a ≠ d) (h : SqL K H a xs) : SqL K H' a xs := by
  rcases h with h | h
  · exact Or.inl (e.rd n h)
  · exact Or.inr h
theorem Ex1.t {K : PySem.W.Frag} {d : Addr} {H H' : Hp} {a : Addr} {xs : List V} (e : Ex1 d H H') (n : a ≠ d) (h : SqT K H a xs) : SqT K H' a xs := by
  rcases h with h | h
  · exact Or.inl (e.rd n h)
  · exact Or.inr h

/-! ### the deck -/
def DeckAt (K : PySem.W.Frag) (H : Hp) (d : Addr) : Prop := ∃ (s : Addr) (ns : List Int) (pos rest seed : Int), H d = some (.lst [.ref s, .int pos, .int rest, .int seed]) ∧ SqL K H s (ns.map V.int) ∧ s ≠ d ∧ 0 ≤ pos
theorem DeckAt.same {K : PySem.W.Frag} {H H' : Hp} {d : Addr} (h : DeckAt K H d) (e : Same H H') : DeckAt K H' d := by
  obtain ⟨s, ns, p, r, q, h1, h2, h3, h4⟩ := h
  exact ⟨s, ns, p, r, q, e _ _ h1, e.seq h2, h3, h4⟩
theorem Same.new {H : Hp} {p : Addr} {o : HO} (h : H p = none) : Same H (upd H p o) := fun a u e => by
  rw [upd_ne (ne_of_none e h)]
  exact e
def spDraw (K : PySem.W.Frag) : Sp := fun vs H Q _ => ∃ (d : Addr) (m : Int), vs = [.ref d, .int m] ∧ DeckAt K H d ∧ 0 < m ∧ m < 10 ^ 62 ∧ ∀ v H', 0 ≤ v → v < m → DeckAt K H' d → Ex1 d H H' → Q (.int v) H'
def spDeck (K : PySem.W.Frag) : Sp := fun vs H Q _ => ∃ (a : Addr) (ns : List Int), vs = [.ref a] ∧ SqL K H a (ns.map V.int) ∧ ∀ d H', H d = none → DeckAt K H' d → Same H H' → Q (.ref d) H'
theorem div62 {i m : Int} (h : 0 < m) (h1 : m < 10 ^ 62) : CDivW i m := by
  have e : (10 : Int) ^ 62 < 2 ^ 250 := by decide
  refine wide_div (b := 250) h ?_ (by decide) (by decide)
  have e1 : (10 : Nat) ^ 62 < 2 ^ 250 := by decide
  have e2 : m.natAbs < 10 ^ 62 := by omega
  omega

/-! ### readings, step by step -/
section
variable {σ : L2.St} {H : Hp} {Q : VK} {v x y : V} {ta tb tc te : TE} {K : PySem.W.Frag} {D : Ends} {t u : TS}
theorem g_var {i : Nat} (h : σ[i]? = some (some v)) (q : Q v H) : tVar i σ H Q := ⟨v, h, q⟩
theorem g_c (q : Q v H) : tC v σ H Q := q
theorem g_op {r : R2} (h : ta σ H fun x H1 => tb σ H1 fun y H2 => r x y H2 Q) : tOp r ta tb σ H Q := h
theorem g_un {r : V → Hp → VK → Prop} (h : ta σ H fun x H1 => r x H1 Q) : tUn r ta σ H Q := h
theorem g_I0 {g : Int → Int → V} {i j : Int} (q : Q (g i j) H) : rI0 g (.int i) (.int j) H Q := ⟨i, j, rfl, rfl, q⟩
theorem g_I {C : Int → Int → Prop} {g : Int → Int → V} {i j : Int} (c : C i j) (q : Q (g i j) H) : rI C g (.int i) (.int j) H Q := ⟨i, j, rfl, rfl, c, q⟩
theorem g_U {g : Int → V} {i : Int} (q : Q (g i) H) : rU g (.int i) H Q := ⟨i, rfl, q⟩
theorem g_ixL {p : Addr} {xs : List V} {i : Int} (h : SqL K H p xs) (a : atI xs i = some v) (q : Q v H) : rIxL K (.ref p) (.int i) H Q := ⟨p, xs, i, v, rfl, rfl, h, a, q⟩
theorem g_ixT {p : Addr} {xs : List V} {i : Int} (h : SqT K H p xs) (a : atI xs i = some v) (q : Q v H) : rIxT K (.ref p) (.int i) H Q := ⟨p, xs, i, v, rfl, rfl, h, a, q⟩
theorem g_eq (h : scal x y = true) (q : Q (.bl (decide (x = y))) H) : rEq x y H Q := ⟨h, q⟩
theorem g_ne (h : scal x y = true) (q : Q (.bl (!decide (x = y))) H) : rNe x y H Q := ⟨h, q⟩
theorem g_eqI {i j : Int} (q : Q (.bl (decide (i = j))) H) : rEq (.int i) (.int j) H Q := ⟨rfl, by
  have e : decide (V.int i = V.int j) = decide (i = j) := by simp
  rw [e]; exact q⟩
theorem g_neI {i j : Int} (q : Q (.bl (!decide (i = j))) H) : rNe (.int i) (.int j) H Q := ⟨rfl, by
  have e : decide (V.int i = V.int j) = decide (i = j) := by simp
  rw [e]; exact q⟩
theorem g_eqB {i j : Bool} (q : Q (.bl (decide (i = j))) H) : rEq (.bl i) (.bl j) H Q := ⟨rfl, by
  have e : decide (V.bl i = V.bl j) = decide (i = j) := by simp
  rw [e]; exact q⟩
/-! calls of built-ins, by named readings -/
def rInt : List V → Hp → VK → Prop := fun xs H Q => ∃ i, xs = [.int i] ∧ Q (.int i) H
def rIntB : List V → Hp → VK → Prop := fun xs H Q => ∃ k, xs = [.bl k] ∧ Q (.int (if k then 1 else 0)) H
def rAbs : List V → Hp → VK → Prop := fun xs H Q => ∃ i, xs = [.int i] ∧ Q (.int (if i < 0 then -i else i)) H
def rMax : List V → Hp → VK → Prop := fun xs H Q => ∃ i j, xs = [.int i, .int j] ∧ Q (.int (if j > i then j else i)) H
def rMin : List V → Hp → VK → Prop := fun xs H Q => ∃ i j, xs = [.int i, .int j] ∧ Q (.int (if j < i then j else i)) H
def rLen (K : PySem.W.Frag) : List V → Hp → VK → Prop := fun xs H Q => ∃ p ys, xs = [.ref p] ∧ (SqL K H p ys ∨ SqT K H p ys) ∧ Q (.int (ys.length : Int)) H
def rList (K : PySem.W.Frag) : List V → Hp → VK → Prop := fun xs H Q => ∃ p ys, xs = [.ref p] ∧ (SqL K H p ys ∨ SqT K H p ys) ∧ ∀ l, H l = none → Q (.ref l) (upd H l (.lst ys))
theorem g_cb1 {r : List V → Hp → VK → Prop} (h : ta σ H fun x H1 => r [x] H1 Q) : tCB r (tCons ta tNil) σ H Q := h
theorem g_cb2 {r : List V → Hp → VK → Prop} (h : ta σ H fun x H1 => tb σ H1 fun y H2 => r [x, y] H2 Q) : tCB r (tCons ta (tCons tb tNil)) σ H Q := h
theorem g_int {i : Int} (q : Q (.int i) H) : rInt [.int i] H Q := ⟨i, rfl, q⟩
theorem g_intB {k : Bool} (q : Q (.int (if k then 1 else 0)) H) : rIntB [.bl k] H Q := ⟨k, rfl, q⟩
theorem g_abs {i : Int} (q : Q (.int (if i < 0 then -i else i)) H) : rAbs [.int i] H Q := ⟨i, rfl, q⟩
theorem g_max {i j : Int} (q : Q (.int (if j > i then j else i)) H) : rMax [.int i, .int j] H Q := ⟨i, j, rfl, q⟩
theorem g_min {i j : Int} (q : Q (.int (if j < i then j else i)) H) : rMin [.int i, .int j] H Q := ⟨i, j, rfl, q⟩
theorem g_lenL {p : Addr} {ys : List V} (h : SqL K H p ys) (q : Q (.int (ys.length : Int)) H) : rLen K [.ref p] H Q := ⟨p, ys, rfl, .inl h, q⟩
theorem g_lenT {p : Addr} {ys : List V} (h : SqT K H p ys) (q : Q (.int (ys.length : Int)) H) : rLen K [.ref p] H Q := ⟨p, ys, rfl, .inr h, q⟩
theorem g_listL {p : Addr} {ys : List V} (h : SqL K H p ys) (q : ∀ l, H l = none → Q (.ref l) (upd H l (.lst ys))) : rList K [.ref p] H Q := ⟨p, ys, rfl, .inl h, q⟩
theorem g_gcd {a b : Int} (q : Q (.int ((Nat.gcd a.natAbs b.natAbs : Nat) : Int)) H) : rGcd [.int a, .int b] H Q := ⟨a, b, rfl, q⟩
theorem g_isi {c : V} {ty w : Value} {b : Bool} (hc : ClsV c w) (ht : TyX K H x ty) (e : PySem.W.kitOne K ty w = some b) (q : Q (.bl b) H) : rIsi K [x, c] H Q := ⟨x, c, ty, w, b, rfl, hc, ht, e, q⟩
/-- isinstance(x, T), T a built-in type's name, x of the built-in type n -/
theorem g_isiT {n m : String} {b : Bool} (ht : TyX K H x (.type n)) (e : kitB n m = some b) (q : Q (.bl b) H) : rIsi K [x, .ty m] H Q := ⟨x, .ty m, .type n, .type m, b, rfl, .ty m, ht, kit_ty e, q⟩
/-! displays -/
theorem g_tup2 (h : ta σ H fun x H1 => tb σ H1 fun y H2 => ∀ p, H2 p = none → Q (.ref p) (upd H2 p (.tup [x, y]))) : tTup (tCons ta (tCons tb tNil)) σ H Q := by
  show ta σ H fun x H1 => tb σ H1 fun y H2 => 2 ≤ sizeLine ∧ ∀ p, H2 p = none → Q (.ref p) (upd H2 p (.tup [x, y]))
  simpa [show (2 : Nat) ≤ sizeLine by decide] using h
theorem g_tupN {ta : TA} (h : ta σ H fun xs H1 => xs.length ≤ sizeLine ∧ ∀ p, H1 p = none → Q (.ref p) (upd H1 p (.tup xs))) : tTup ta σ H Q := h
theorem g_lstN {ta : TA} (h : ta σ H fun xs H1 => xs.length ≤ sizeLine ∧ ∀ p, H1 p = none → Q (.ref p) (upd H1 p (.lst xs))) : tLst ta σ H Q := h
theorem g_nil {Q : List V → Hp → Prop} (q : Q [] H) : tNil σ H Q := q
theorem g_cons {tr : TA} {Q : List V → Hp → Prop} (h : ta σ H fun x H1 => tr σ H1 fun xs H2 => Q (x :: xs) H2) : tCons ta tr σ H Q := h
theorem g_new {n : Nat} {Q : Addr → Hp → Prop} {f : Addr → Hp} (hn : n ≤ 1000) (h : ∀ p, H p = none → Q p (f p)) : n ≤ sizeLine ∧ ∀ p, H p = none → Q p (f p) := ⟨Nat.le_trans hn (by decide), h⟩
/-! tests -/
variable {QB : Bool → Hp → Prop} {tt tu : TT}
theorem g_test (h : te σ H fun x H1 => ∃ k, x = .bl k ∧ QB k H1) : tTest te σ H QB := h
theorem g_B (h : te σ H fun x H1 => ∃ k, x = .bl k ∧ QB k H1) : tB te σ H QB := h
theorem g_bl {b : Bool} (q : QB b H) : ∃ k, V.bl b = .bl k ∧ QB k H := ⟨b, rfl, q⟩
theorem g_not (h : tt σ H fun b H1 => QB (!b) H1) : tNot tt σ H QB := h
theorem g_and (h : tt σ H fun b H1 => if b = true then tu σ H1 QB else QB false H1) : tAnd tt tu σ H QB := h
theorem g_or (h : tt σ H fun b H1 => if b = true then QB true H1 else tu σ H1 QB) : tOr tt tu σ H QB := h
theorem g_andV (h : ta σ H fun x H1 => ∃ c, x = .bl c ∧ if c = true then tb σ H1 Q else Q (.bl false) H1) : tAndV ta tb σ H Q := h
theorem g_orV (h : ta σ H fun x H1 => ∃ c, x = .bl c ∧ if c = true then Q (.bl true) H1 else tb σ H1 Q) : tOrV ta tb σ H Q := h
theorem g_notV (h : ta σ H fun x H1 => ∃ c, x = .bl c ∧ Q (.bl (!c)) H1) : tNotV ta σ H Q := h
theorem g_ex {b : Bool} {P : Bool → Prop} (q : P b) : ∃ c, V.bl b = .bl c ∧ P c := ⟨b, rfl, q⟩
theorem g_ite {p : Prop} [Decidable p] {A B : Prop} (h1 : p → A) (h2 : ¬ p → B) : if decide p = true then A else B := by
  by_cases h : p
  · rw [decide_eq_true h, if_pos rfl]; exact h1 h
  · rw [decide_eq_false h, if_neg Bool.false_ne_true]; exact h2 h
theorem g_iteN {p : Prop} [Decidable p] {A B : Prop} (h1 : ¬ p → A) (h2 : p → B) : if (!decide p) = true then A else B := by
  by_cases h : p
  · rw [decide_eq_true h, if_neg (by decide)]; exact h2 h
  · rw [decide_eq_false h, if_pos (by decide)]; exact h1 h
theorem g_iteT {A B : Prop} (h : A) : if true = true then A else B := by rw [if_pos rfl]; exact h
theorem g_iteF {A B : Prop} (h : B) : if false = true then A else B := by rw [if_neg Bool.false_ne_true]; exact h
theorem g_iteNT {A B : Prop} (h : B) : if (!true) = true then A else B := by rw [if_neg (by decide)]; exact h
theorem g_iteNF {A B : Prop} (h : A) : if (!false) = true then A else B := by rw [if_pos (by decide)]; exact h
theorem g_iteB {b : Bool} {A B : Prop} (h1 : b = true → A) (h2 : b = false → B) : if b = true then A else B := by
  cases b with
  | true => rw [if_pos rfl]; exact h1 rfl
  | false => rw [if_neg Bool.false_ne_true]; exact h2 rfl
/-! statements -/
variable {g : TG}
theorem g_seq (h : t { D with nx := u D } σ H) : tSeq t u D σ H := h
theorem g_next (q : D.nx σ H) : tNext D σ H := q
theorem g_ret (h : te σ H D.rt) : tRet te D σ H := h
theorem g_if {c : TT} (h : c σ H fun b H1 => if b = true then t D σ H1 else u D σ H1) : tIfS c t u D σ H := h
theorem g_set {i : Nat} (h : te σ H fun x H1 => D.nx (σ.set i (some x)) H1) : tAsg te (gName i) D σ H := h
theorem g_setS (h : te σ H fun x H1 => ta σ H1 fun o H2 => tb σ H2 fun i H3 => rSetL o i x H3 fun H4 => D.nx σ H4) : tAsg te (gSub ta tb rSetL) D σ H := h
theorem g_setL {p : Addr} {xs : List V} {k : Int} {j : Nat} {Q : Hp → Prop} (h : H p = some (.lst xs)) (e : ixN xs.length k = some j) (q : Q (upd H p (.lst (xs.set j v)))) : rSetL (.ref p) (.int k) v H Q := ⟨p, xs, k, j, rfl, rfl, h, e, q⟩
theorem g_drop (h : te σ H fun _ H1 => D.nx σ H1) : tDrop te D σ H := h
theorem g_aug {i : Nat} {r : TIp} (hx : σ[i]? = some (some x)) (h : te σ H fun y H1 => r x y H1 fun z H2 => D.nx (σ.set i (some z)) H2) : tAug i te r D σ H := ⟨x, hx, h⟩
theorem g_ipI {f : Int → Int → Int} {i j : Int} (q : Q (.int (f i j)) H) : ipI f (.int i) (.int j) H Q := ⟨i, j, rfl, rfl, q⟩
theorem g_call {sp : Sp} {E : XK} {ta : TA} (h : ta σ H fun vs H1 => sp vs H1 Q E) : tCall sp [] E ta σ H Q := by
  show ta σ H fun vs H1 => sp (vs ++ []) H1 Q E
  simpa using h
end
section
variable {X : Cx}
theorem pe_powc {a b r : Int} {j1 j2 : Nat} {p1 p2 pos : Pos} (h : 0 ≤ b ∧ b ≤ 1000000 ∧ a.natAbs < 2 ^ 64) (e : a ^ b.toNat = r) : PE X (.BinOp (.Constant (.int a) j1 p1) .Pow (.Constant (.int b) j2 p2) pos) (tC (.int r)) :=
  ⟨fun pins s σ H Q I q => (pe_op op_pow pe_int pe_int).run pins s σ H Q I ⟨a, b, rfl, rfl, h, by subst e; exact q⟩⟩
theorem call_int' : CallR X (.type "int") rInt := fun pins s σ H xs us Q I r h => call_int1 pins s σ H xs us Q I r (.inl h)
theorem call_intB : CallR X (.type "int") rIntB := fun pins s σ H xs us Q I r h => call_int1 pins s σ H xs us Q I r (.inr h)
theorem call_abs' : CallR X (.builtin "abs") rAbs := call_abs
theorem call_max' (hc : X.calm = true) : CallR X (.builtin "max") rMax := call_max2 hc
theorem call_min' (hc : X.calm = true) : CallR X (.builtin "min") rMin := call_min2 hc
theorem call_len' : CallR X (.builtin "len") (rLen X.K) := call_len_seq
theorem call_list' : CallR X (.type "list") (rList X.K) := call_list_of
end
/-! isinstance, by the built-in kinds -/
theorem kit_int_int : kitB "int" "int" = some true := by decide +kernel
theorem kit_int_bool : kitB "int" "bool" = some false := by decide +kernel
theorem kit_int_tuple : kitB "int" "tuple" = some false := by decide +kernel
theorem kit_int_str : kitB "int" "str" = some false := by decide +kernel
theorem kit_int_list : kitB "int" "list" = some false := by decide +kernel
theorem kit_int_dict : kitB "int" "dict" = some false := by decide +kernel
theorem kit_bool_int : kitB "bool" "int" = some true := by decide +kernel
theorem kit_bool_bool : kitB "bool" "bool" = some true := by decide +kernel
theorem kit_bool_tuple : kitB "bool" "tuple" = some false := by decide +kernel
theorem kit_bool_str : kitB "bool" "str" = some false := by decide +kernel
theorem kit_bool_list : kitB "bool" "list" = some false := by decide +kernel
theorem kit_bool_dict : kitB "bool" "dict" = some false := by decide +kernel
theorem kit_tuple_int : kitB "tuple" "int" = some false := by decide +kernel
theorem kit_tuple_bool : kitB "tuple" "bool" = some false := by decide +kernel
theorem kit_tuple_tuple : kitB "tuple" "tuple" = some true := by decide +kernel
theorem kit_tuple_str : kitB "tuple" "str" = some false := by decide +kernel
theorem kit_tuple_list : kitB "tuple" "list" = some false := by decide +kernel
theorem kit_tuple_dict : kitB "tuple" "dict" = some false := by decide +kernel
theorem kit_str_int : kitB "str" "int" = some false := by decide +kernel
theorem kit_str_bool : kitB "str" "bool" = some false := by decide +kernel
theorem kit_str_tuple : kitB "str" "tuple" = some false := by decide +kernel
theorem kit_str_str : kitB "str" "str" = some true := by decide +kernel
theorem kit_str_list : kitB "str" "list" = some false := by decide +kernel
theorem kit_str_dict : kitB "str" "dict" = some false := by decide +kernel
theorem kit_list_int : kitB "list" "int" = some false := by decide +kernel
theorem kit_list_bool : kitB "list" "bool" = some false := by decide +kernel
theorem kit_list_tuple : kitB "list" "tuple" = some false := by decide +kernel
theorem kit_list_str : kitB "list" "str" = some false := by decide +kernel
theorem kit_list_list : kitB "list" "list" = some true := by decide +kernel
theorem kit_list_dict : kitB "list" "dict" = some false := by decide +kernel
theorem kit_NoneType_int : kitB "NoneType" "int" = some false := by decide +kernel
theorem kit_NoneType_bool : kitB "NoneType" "bool" = some false := by decide +kernel
theorem kit_NoneType_tuple : kitB "NoneType" "tuple" = some false := by decide +kernel
theorem kit_NoneType_str : kitB "NoneType" "str" = some false := by decide +kernel
theorem kit_NoneType_list : kitB "NoneType" "list" = some false := by decide +kernel
theorem kit_NoneType_dict : kitB "NoneType" "dict" = some false := by decide +kernel
theorem kit_dict_int : kitB "dict" "int" = some false := by decide +kernel
theorem kit_dict_bool : kitB "dict" "bool" = some false := by decide +kernel
theorem kit_dict_tuple : kitB "dict" "tuple" = some false := by decide +kernel
theorem kit_dict_str : kitB "dict" "str" = some false := by decide +kernel
theorem kit_dict_list : kitB "dict" "list" = some false := by decide +kernel
theorem kit_dict_dict : kitB "dict" "dict" = some true := by decide +kernel

/-! defs with defaults -/
structure DefInD (K : PySem.W.Frag) (mg : Str → Option Value) (x : Str) (st : Stmt) (dvs : List V) : Prop where
  ex : ∃ (f : Addr) (fd : FuncData), FunD K x x (defArgs st) (defBody st) (defScope st) dvs [] f fd ∧ mg x = some (.ref f)
structure HasD (P : Program) (w : World) (K : PySem.W.Frag) (mg : Str → Option Value) (base : Heap) (k : Nat) (x : Str) (ps : List Str) (dvs : List V) (sp : Sp) : Prop where
  ex : ∃ (f : Addr) (fd : FuncData) (ds : List Value), FnOk P w K mg base CX0 k f fd ps sp ∧ mg x = some (.ref f) ∧ PySem.W.keepIn K (.ref f) = true ∧ Vals dvs ds ∧ Binds K fd ps ds
section
variable {P : Program} {w : World} {K : PySem.W.Frag} {mg : Str → Option Value} {base : Heap}
/-- the def's promise; its calls with n values written, the defaults behind the first j filling up -/
theorem hasD_of {x : Str} {st : Stmt} {N ps : List Str} {k : Nat} {sp : Sp} {dvs : List V} (D : DefInD K mg x st dvs) (S : FnScope N ps (defScope st)) (n j : Nat) (hd : dvs ≠ []) (hn : n + (dvs.length - j) = ps.length)
    (hb : ∀ (T : Addr) (kV doc pm : Value) (an : Option Addr) (cdv ct : Value) (us its : List Value), us.length = n → its.length = dvs.length →
      ∃ k, bindArgs (PySem.W.fnOf x x (defArgs st) (defBody st) (defScope st) (.ref T) kV doc pm an cdv ct) ⟨us, []⟩ = seqItems? (.ref T) >>= k ∧ k (some its.toArray) = pure (ps.zip (us ++ its.drop j)))
    (len : ∀ vs H Q E, sp vs H Q E → vs.length = ps.length)
    (hbody : ∀ (f : Addr) (cdv : Value) (A : Around) (outer : List Env) (s : Shared) (H : Hp) (vs : List V) (Q : VK) (E : XK), Room k (A.deeper (envOfC x (defScope st) s.heap.objs.size f cdv)) → sp vs H Q E →
      ∃ t, PSs (bx P w K mg base N x st f cdv A outer s H E) (defBody st) t ∧ t { nx := fun _ H' => Q .non H', rt := Q } (start N vs) H) : HasD P w K mg base (k + 1) x ps (dvs.drop j) sp := by
  obtain ⟨f, fd, F, m⟩ := D.ex
  obtain ⟨ds, r, b⟩ := F.binds1 n j hd hn hb
  refine ⟨f, fd, ds, F.ok S len fun cdv A outer s H vs Q E hr h => ?_, m, F.kp, r, b⟩
  obtain ⟨t, ht, q⟩ := hbody f cdv A outer s H vs Q E hr h
  exact ⟨t, ht.nox, q⟩
end
theorem pe_hD {X : Cx} {k : Nat} {x : Str} {ps : List Str} {dvs : List V} {sp : Sp} {e : Expr} {es : List Expr} {t : TA} {p pos : Pos} (h : HasD X.prog X.w X.K X.mg X.base k x ps dvs sp) (hr : Room k X.A) (ha : PA X (e :: es) t) (hg : Gl X x := by rfl)
    (hdb : (x == ("__debug__" : Str)) = false := by decide) (he : starEach (e :: es) X.env = (false, eval e X.env) :: starEach es X.env := by rfl) (hpl : (backTo pos (starEach es X.env)).any (·.1) = false := by rfl) :
    PE X (.Call (.Name x p) (e :: es) [] pos) (tCall sp dvs E0 t) := by
  obtain ⟨f, fd, ds, a, b, c, r, d⟩ := h.ex
  exact pe_call a hr hg b c d r pass0 ha hdb he hpl
theorem g_callD {sp : Sp} {dvs : List V} {E : XK} {ta : TA} {σ : L2.St} {H : Hp} {Q : VK} (h : ta σ H fun vs H1 => sp (vs ++ dvs) H1 Q E) : tCall sp dvs E ta σ H Q := h
end Fl

set_option Elab.async false
set_option linter.all false
set_option maxRecDepth 100000
set_option maxHeartbeats 4000000
set_option exponentiation.threshold 20000
/-! fractions: the mathematics, and what the helpers promise -/
namespace Fl
open PySem PySem.Spec PyProof.Rows L2

def gg (p q : Int) : Int := ((Nat.gcd p.natAbs q.natAbs : Nat) : Int)
def rp (p q : Int) : Int := if q < 0 then -(p / gg p q) else p / gg p q
def rq (p q : Int) : Int := if q < 0 then -(q / gg p q) else q / gg p q
theorem gg_pos {p q : Int} (h : q ≠ 0) : 0 < gg p q := by
  have : 0 < Nat.gcd p.natAbs q.natAbs := Nat.gcd_pos_of_pos_right _ (by omega)
  unfold gg; omega
theorem gg_dvd_l (p q : Int) : gg p q ∣ p := by
  unfold gg
  exact Int.ofNat_dvd_left.mpr (Nat.gcd_dvd_left _ _)
theorem gg_dvd_r (p q : Int) : gg p q ∣ q := by
  unfold gg
  exact Int.ofNat_dvd_left.mpr (Nat.gcd_dvd_right _ _)
theorem abs_div_le {p g : Int} (hg : 0 < g) : (p / g).natAbs ≤ p.natAbs := by
  have h := Int.natAbs_ediv_le_natAbs p g
  exact h
theorem fdiv_neg_exact {p g : Int} (hg : 0 < g) (hd : g ∣ p) : Int.fdiv p (-g) = -(p / g) := by
  obtain ⟨k, rfl⟩ := hd
  have h1 : g * k / g = k := Int.mul_ediv_cancel_left k (by omega)
  rw [h1]
  have h2 : g * k = (-g) * (-k) := by rw [Int.neg_mul_neg]
  rw [h2]
  exact Int.mul_fdiv_cancel_left (-k) (by omega)
theorem fdiv_pos_exact {p g : Int} (hg : 0 < g) : Int.fdiv p g = p / g := Int.fdiv_eq_ediv_of_nonneg p (by omega)
theorem rp_abs (p q : Int) (h : q ≠ 0) : (rp p q).natAbs ≤ p.natAbs := by
  have := abs_div_le (p := p) (gg_pos (p := p) h)
  unfold rp
  split <;> omega
theorem rq_abs (p q : Int) (h : q ≠ 0) : (rq p q).natAbs ≤ q.natAbs := by
  have := abs_div_le (p := q) (gg_pos (p := p) h)
  unfold rq
  split <;> omega
theorem rq_pos (p q : Int) (h : q ≠ 0) : 0 < rq p q := by
  have hg := gg_pos (p := p) h
  obtain ⟨k, hk⟩ := gg_dvd_r p q
  have e : q / gg p q = k := Int.ediv_eq_of_eq_mul_right (by omega) hk
  unfold rq
  rw [e]
  by_cases hq : q < 0
  · rw [if_pos hq]
    have : k < 0 := by
      rcases (by omega : k < 0 ∨ 0 ≤ k) with h1 | h1
      · exact h1
      · have : 0 ≤ gg p q * k := Int.mul_nonneg (by omega) h1
        omega
    omega
  · rw [if_neg hq]
    rcases (by omega : 0 < k ∨ k ≤ 0) with h1 | h1
    · exact h1
    · have h2 : gg p q * k ≤ 0 := Int.mul_nonpos_of_nonneg_of_nonpos (by omega) h1
      omega
theorem rp_mul (p q : Int) (h : q ≠ 0) : rp p q * q = p * rq p q := by
  have hg := gg_pos (p := p) h
  obtain ⟨k, hk⟩ := gg_dvd_r p q
  obtain ⟨l, hl⟩ := gg_dvd_l p q
  have e : q / gg p q = k := Int.ediv_eq_of_eq_mul_right (by omega) hk
  have e2 : p / gg p q = l := Int.ediv_eq_of_eq_mul_right (by omega) hl
  have key : l * q = p * k := by
    generalize gg p q = g at hk hl
    subst hk hl
    rw [Int.mul_comm g l, Int.mul_assoc]
  unfold rp rq
  rw [e, e2]
  split
  · rw [Int.neg_mul, key, Int.mul_neg]
  · exact key

/-! the loop of Euclid -/
theorem euclid_step {m n : Nat} (hn : 0 < n) : Nat.gcd n (m % n) = Nat.gcd m n := by
  rw [Nat.gcd_comm n (m % n), Nat.gcd_comm m n]
  exact (Nat.gcd_rec n m).symm
structure Eu (g B i m n : Nat) : Prop where
  gcd : Nat.gcd m n = g
  lt : (i = 0 ∧ m * n ≤ B) ∨ n < m
  le : m * n * 2 ^ i ≤ 2 * B
theorem Eu.start {m n B : Nat} (h : m * n ≤ B) : Eu (Nat.gcd m n) B 0 m n := ⟨rfl, .inl ⟨rfl, h⟩, by simp; omega⟩
theorem Eu.step {g B i m n : Nat} (h : Eu g B i m n) (hn : 0 < n) : Eu g B (i + 1) n (m % n) := by
  refine ⟨(euclid_step hn).trans h.gcd, .inr (Nat.mod_lt _ hn), ?_⟩
  have hle := h.le
  rcases h.lt with e | e
  · obtain ⟨e, e'⟩ := e
    subst e
    have h1 : m % n ≤ m := Nat.mod_le _ _
    have h2 : n * (m % n) ≤ n * m := Nat.mul_le_mul_left _ h1
    have h3 : n * m = m * n := Nat.mul_comm _ _
    rw [Nat.zero_add, Nat.pow_one]
    omega
  · have h1 : 2 * (m % n) ≤ m := by
      have q1 := Nat.div_add_mod m n
      have q2 : m % n < n := Nat.mod_lt _ hn
      have q3 : 1 ≤ m / n := (Nat.le_div_iff_mul_le hn).mpr (by omega)
      have q4 : n * 1 ≤ n * (m / n) := Nat.mul_le_mul_left _ q3
      omega
    have h2 : n * (m % n) * 2 ^ (i + 1) = n * (2 * (m % n)) * 2 ^ i := by
      rw [Nat.pow_succ]
      simp only [Nat.mul_assoc, Nat.mul_comm, Nat.mul_left_comm]
    have h3 : n * (2 * (m % n)) ≤ n * m := Nat.mul_le_mul_left _ h1
    have h4 : n * (2 * (m % n)) * 2 ^ i ≤ n * m * 2 ^ i := Nat.mul_le_mul_right _ h3
    rw [h2, Nat.mul_comm n m] at *
    omega
theorem Eu.fin {g B m n : Nat} (h : Eu g B 5000 m n) (hB : B < 2 ^ 4990) : m = g := by
  have h0 : n = 0 := by
    rcases Nat.eq_zero_or_pos n with e | e
    · exact e
    · exfalso
      have hm : n < m := by
        rcases h.lt with q | q
        · cases q.1
        · exact q
      have h1 : 1 * 1 ≤ m * n := Nat.mul_le_mul (by omega) e
      have h2 : 1 * 2 ^ 5000 ≤ m * n * 2 ^ 5000 := Nat.mul_le_mul_right _ (by omega)
      have h3 := h.le
      have h4 : 2 * 2 ^ 4990 ≤ 1 * 2 ^ 5000 := by decide +kernel
      omega
  have := h.gcd
  rw [h0, Nat.gcd_zero_right] at this
  exact this
theorem Eu.done {g B i m : Nat} (h : Eu g B i m 0) : m = g := by
  have := h.gcd
  rw [Nat.gcd_zero_right] at this
  exact this

/-! sizes -/
theorem mulW {i j : Int} (hi : i.natAbs < 2 ^ 4000) (hj : j.natAbs < 2 ^ 4000) : CMulW i j := wide_mul hi hj (by decide) (by decide) (by decide)
theorem divW {i j : Int} (h : 0 < j) (hj : j.natAbs < 2 ^ 4000) : CDivW i j := wide_div h hj (by decide) (by decide)
/-- // by a divisor of either sign -/
def CDivS (_ j : Int) : Prop := j ≠ 0 ∧ j.natAbs.log2 < 9000
theorem op_fdivS {X : Cx} : OpR X (binaryOp .FloorDiv) (rI CDivS fun i j => .int (i.fdiv j)) := opI fun i j _ _ _ _ _ hc q =>
  floordiv_int hc.1 q (.inl (PyProof.noPylong_of_log2 hc.2))
theorem divS {i j : Int} (h : j ≠ 0) (hj : j.natAbs < 2 ^ 4000) : CDivS i j := ⟨h, Nat.lt_of_lt_of_le (PySem.Flt.log2_lt_of (by decide) hj) (by decide)⟩

/-! loops -/
section
variable {σ : L2.St} {H : Hp} {te : TE} {D : Ends} {g : TG} {tb : TS}
theorem g_forR (n : Int) (Pv : Nat → L2.St → Hp → Prop) (h : te σ H fun x H1 => x = .int n ∧ -(2 ^ 62) ≤ n ∧ n < 2 ^ 62 ∧ Pv 0 σ H1)
    (hs : ∀ (i : Nat) σ' H', (i : Int) < n → Pv i σ' H' → g (.int (i : Int)) σ' H' fun σ2 H2 => tb { D with nx := Pv (i + 1), ct := Pv (i + 1), bk := D.nx } σ2 H2)
    (hd : ∀ σ' H', Pv n.toNat σ' H' → D.nx σ' H') (mono : ∀ Q Q' : VK, (∀ x H1, Q x H1 → Q' x H1) → te σ H Q → te σ H Q') : tFor (iRng1 (tCons te tNil)) g tb D σ H := by
  refine mono _ _ (fun x H1 q => ?_) h
  obtain ⟨rfl, h1, h2, p⟩ := q
  show ∃ j : Int, [V.int n] = [V.int j] ∧ _
  refine ⟨n, rfl, h1, h2, for_range Pv p (fun i σ' H' hi p' => ?_) hd⟩
  have e0 : (0 : Int) + (i : Int) = (i : Int) := Int.zero_add _
  rw [e0]
  exact hs i σ' H' (by omega) p'
end

/-! promises -/
/-- the frame: what stood stands -/
def spGcd : Sp := fun vs H Q _ => ∃ (m n : Nat), vs = [.int (m : Int), .int (n : Int)] ∧ m * n < 2 ^ 4990 ∧ Q (.int ((Nat.gcd m n : Nat) : Int)) H
def spRat : Sp := fun vs H Q _ => ∃ (p q : Int), vs = [.int p, .int q] ∧ q ≠ 0 ∧ p.natAbs < 2 ^ 2000 ∧ q.natAbs < 2 ^ 2000 ∧ ∀ t, H t = none → Q (.ref t) (upd H t (.tup [.int (rp p q), .int (rq p q)]))
/-- a fraction stands at a -/
def FrAt (K : PySem.W.Frag) (H : Hp) (a : Addr) (p q : Int) : Prop := SqT K H a [.int p, .int q]
theorem rat_app {p q : Int} {H : Hp} {Q : VK} {E : XK} (h : q ≠ 0) (h1 : p.natAbs < 2 ^ 2000) (h2 : q.natAbs < 2 ^ 2000) (k : ∀ t, H t = none → Q (.ref t) (upd H t (.tup [.int (rp p q), .int (rq p q)]))) : spRat [.int p, .int q] H Q E :=
  ⟨p, q, rfl, h, h1, h2, k⟩
theorem draw_app {K : PySem.W.Frag} {d : Addr} {m : Int} {H : Hp} {Q : VK} {E : XK} (h : DeckAt K H d) (h1 : 0 < m) (h2 : m < 10 ^ 62) (k : ∀ v H', 0 ≤ v → v < m → DeckAt K H' d → Ex1 d H H' → Q (.int v) H') : spDraw K [.ref d, .int m] H Q E :=
  ⟨d, m, rfl, h, h1, h2, k⟩
theorem deck_app {K : PySem.W.Frag} {a : Addr} {ns : List Int} {H : Hp} {Q : VK} {E : XK} (h : SqL K H a (ns.map V.int)) (k : ∀ d H', H d = none → DeckAt K H' d → Same H H' → Q (.ref d) H') : spDeck K [.ref a] H Q E :=
  ⟨a, ns, rfl, h, k⟩
theorem DeckAt.ne {K : PySem.W.Frag} {H : Hp} {d p : Addr} (h : DeckAt K H d) (hp : H p = none) : p ≠ d := by
  obtain ⟨s, ns, a, b, c, h1, _⟩ := h
  exact fun e => by rw [e, h1] at hp; cases hp
theorem Same.t {K : PySem.W.Frag} {H H' : Hp} {a : Addr} {xs : List V} (e : Same H H') (h : SqT K H a xs) : SqT K H' a xs := by
  rcases h with (h | ⟨o, h⟩) | h
  · exact .inl (.inl (e _ _ h))
  · exact .inl (.inr ⟨o, e _ _ h⟩)
  · exact .inr h

theorem at_int {ns : List Int} {i : Int} (h0 : 0 ≤ i) (h : i < ns.length) : ∃ n, atI (ns.map V.int) i = some (.int n) := by
  obtain ⟨k, rfl⟩ : ∃ k : Nat, i = (k : Int) := ⟨i.toNat, by omega⟩
  have hk : k < ns.length := by omega
  refine ⟨ns[k], atI_nat ?_⟩
  rw [List.getElem?_map, List.getElem?_eq_getElem hk]
  rfl

theorem natAbs_ediv_of_dvd {p g : Int} (hg : 0 < g) (hd : g ∣ p) : (p / g).natAbs = p.natAbs / g.natAbs := by
  obtain ⟨k, rfl⟩ := hd
  rw [Int.mul_ediv_cancel_left k (by omega), Int.natAbs_mul, Nat.mul_div_cancel_left _ (by omega)]
theorem rat_cop (p q : Int) (h : q ≠ 0) : Nat.gcd (rp p q).natAbs (rq p q).natAbs = 1 := by
  have hg := gg_pos (p := p) h
  have e : (gg p q).natAbs = Nat.gcd p.natAbs q.natAbs := rfl
  have h0 : 0 < Nat.gcd p.natAbs q.natAbs := by omega
  have key : Nat.gcd (p / gg p q).natAbs (q / gg p q).natAbs = 1 := by
    rw [natAbs_ediv_of_dvd hg (gg_dvd_l p q), natAbs_ediv_of_dvd hg (gg_dvd_r p q), e]
    exact Nat.gcd_div_gcd_div_gcd_of_pos_right (by omega)
  unfold rp rq
  split
  · rw [Int.natAbs_neg, Int.natAbs_neg]
    exact key
  · exact key
/-- a drawn fraction -/
structure Fra (n e : Int) : Prop where
  pos : 0 < e
  bn : n.natAbs ≤ 10 ^ 12
  be : e.natAbs ≤ 10 ^ 12
  cop : Nat.gcd n.natAbs e.natAbs = 1
theorem big12 {x : Int} (h : x.natAbs ≤ 10 ^ 12) : x.natAbs < 2 ^ 2000 := by
  have : (10 : Nat) ^ 12 < 2 ^ 2000 := by decide +kernel
  omega
theorem big40 {x : Int} (h : x.natAbs < 2 ^ 2000) : x.natAbs < 2 ^ 4000 := by
  have : (2 : Nat) ^ 2000 < 2 ^ 4000 := by decide +kernel
  omega
theorem Fra.int {n : Int} (h : n.natAbs ≤ 10 ^ 12) : Fra n 1 := ⟨by decide, h, by decide, Nat.gcd_one_right _⟩
theorem Fra.rat {p q : Int} (h : q ≠ 0) (h1 : p.natAbs ≤ 10 ^ 12) (h2 : q.natAbs ≤ 10 ^ 12) : Fra (rp p q) (rq p q) :=
  ⟨rq_pos p q h, Nat.le_trans (rp_abs p q h) h1, Nat.le_trans (rq_abs p q h) h2, rat_cop p q h⟩
def spBig (K : PySem.W.Frag) : Sp := fun vs H Q _ => ∃ (d : Addr), vs = [.ref d] ∧ DeckAt K H d ∧ ∀ t H' n e, DeckAt K H' d → Ex1 d H H' → t ≠ d → SqT K H' t [.int n, .int e] → Fra n e → Q (.ref t) H'
theorem big_app {K : PySem.W.Frag} {d : Addr} {H : Hp} {Q : VK} {E : XK} (h : DeckAt K H d) (k : ∀ t H' n e, DeckAt K H' d → Ex1 d H H' → t ≠ d → SqT K H' t [.int n, .int e] → Fra n e → Q (.ref t) H') : spBig K [.ref d] H Q E := ⟨d, rfl, h, k⟩
def sg (x : Int) : Int := if 0 < x then 1 else if x < 0 then -1 else 0
theorem sg_neg (x : Int) : sg (-x) = -sg x := by
  unfold sg
  rcases (by omega : x < 0 ∨ x = 0 ∨ 0 < x) with h | h | h
  · rw [if_pos (by omega), if_neg (by omega), if_pos h]; rfl
  · subst h; rfl
  · rw [if_neg (by omega), if_pos (by omega), if_pos h]

def spCmp (K : PySem.W.Frag) : Sp := fun vs H Q _ => ∃ (a b : Addr) (n e m k : Int), vs = [.ref a, .ref b] ∧ SqT K H a [.int n, .int e] ∧ SqT K H b [.int m, .int k] ∧
  n.natAbs < 2 ^ 4000 ∧ e.natAbs < 2 ^ 4000 ∧ m.natAbs < 2 ^ 4000 ∧ k.natAbs < 2 ^ 4000 ∧ Q (.int (sg (n * k - m * e))) H
theorem cmp_app {K : PySem.W.Frag} {a b : Addr} {n e m k : Int} {H : Hp} {Q : VK} {E : XK} (h1 : SqT K H a [.int n, .int e]) (h2 : SqT K H b [.int m, .int k])
  (f1 : Fra n e) (f2 : Fra m k) (q : Q (.int (sg (n * k - m * e))) H) : spCmp K [.ref a, .ref b] H Q E :=
  ⟨a, b, n, e, m, k, rfl, h1, h2, big40 (big12 f1.bn), big40 (big12 f1.be), big40 (big12 f2.bn), big40 (big12 f2.be), q⟩
def spDown (K : PySem.W.Frag) : Sp := fun vs H Q _ => ∃ (a : Addr) (n e : Int), vs = [.ref a] ∧ SqT K H a [.int n, .int e] ∧ 0 < e ∧ e.natAbs < 2 ^ 4000 ∧ Q (.int (n / e)) H
def spNear (K : PySem.W.Frag) : Sp := fun vs H Q _ => ∃ (a : Addr) (n e : Int), vs = [.ref a] ∧ SqT K H a [.int n, .int e] ∧ 0 < e ∧ (2 * e).natAbs < 2 ^ 4000 ∧ Q (.int ((2 * n + e) / (2 * e))) H
theorem down_app {K : PySem.W.Frag} {a : Addr} {n e : Int} {H : Hp} {Q : VK} {E : XK} (h1 : SqT K H a [.int n, .int e]) (f1 : Fra n e) (q : Q (.int (n / e)) H) : spDown K [.ref a] H Q E := ⟨a, n, e, rfl, h1, f1.pos, big40 (big12 f1.be), q⟩
theorem near_app {K : PySem.W.Frag} {a : Addr} {n e : Int} {H : Hp} {Q : VK} {E : XK} (h1 : SqT K H a [.int n, .int e]) (f1 : Fra n e) (q : Q (.int ((2 * n + e) / (2 * e))) H) : spNear K [.ref a] H Q E :=
  ⟨a, n, e, rfl, h1, f1.pos, by
    have h2 := f1.be
    have h3 : (2 : Nat) * 10 ^ 12 < 2 ^ 4000 := by decide +kernel
    omega, q⟩
def spIsInt : Sp := fun vs H Q _ => ∃ (i : Int), vs = [.int i] ∧ Q (.bl true) H
theorem isint_app {i : Int} {H : Hp} {Q : VK} {E : XK} (q : Q (.bl true) H) : spIsInt [.int i] H Q E := ⟨i, rfl, q⟩
def spSameI : Sp := fun vs H Q _ => ∃ (i j : Int), vs = [.int i, .int j] ∧ Q (.bl (decide (i = j))) H
theorem sameI_app {i j : Int} {H : Hp} {Q : VK} {E : XK} (q : Q (.bl (decide (i = j))) H) : spSameI [.int i, .int j] H Q E := ⟨i, j, rfl, q⟩

theorem fra_app {p q : Int} {H : Hp} {Q : VK} {E : XK} (h : q ≠ 0) (h1 : p.natAbs ≤ 10 ^ 12) (h2 : q.natAbs ≤ 10 ^ 12) (k : ∀ t n e, H t = none → Fra n e → Q (.ref t) (upd H t (.tup [.int n, .int e]))) : spRat [.int p, .int q] H Q E :=
  rat_app h (big12 h1) (big12 h2) fun t ht => k t _ _ ht (Fra.rat h h1 h2)
theorem down2_app {K : PySem.W.Frag} {a : Addr} {n e : Int} {H : Hp} {Q : VK} {E : XK} (h1 : SqT K H a [.int n, .int e]) (f1 : Fra n e)
    (q : ∀ v, v.natAbs < 2 ^ 4000 → (v + 1).natAbs < 2 ^ 4000 → e.natAbs < 2 ^ 4000 → v * e ≤ n → n < (v + 1) * e → Q (.int v) H) : spDown K [.ref a] H Q E := by
  have hp := f1.pos
  have b1 := f1.bn
  have b2 := f1.be
  have big : (10 : Nat) ^ 12 + 1 < 2 ^ 4000 := by decide +kernel
  have b3 : (n / e).natAbs ≤ n.natAbs := Int.natAbs_ediv_le_natAbs n e
  refine down_app h1 f1 (q _ (by omega) (by omega) (by omega) ?_ ?_)
  · exact Int.ediv_mul_le n (by omega)
  · exact Int.lt_ediv_add_one_mul_self n hp
theorem near2_app {K : PySem.W.Frag} {a : Addr} {n e : Int} {H : Hp} {Q : VK} {E : XK} (h1 : SqT K H a [.int n, .int e]) (f1 : Fra n e)
    (q : ∀ v, (2 * v).natAbs < 2 ^ 4000 → e.natAbs < 2 ^ 4000 → 2 * v * e ≤ 2 * n + e → 2 * n - e < 2 * v * e → Q (.int v) H) : spNear K [.ref a] H Q E := by
  have hp := f1.pos
  have b1 := f1.bn
  have b2 := f1.be
  have big : (10 : Nat) ^ 14 < 2 ^ 4000 := by decide +kernel
  have b3 : ((2 * n + e) / (2 * e)).natAbs ≤ (2 * n + e).natAbs := Int.natAbs_ediv_le_natAbs _ _
  have c1 := Int.ediv_mul_le (2 * n + e) (b := 2 * e) (by omega)
  have c2 := Int.lt_ediv_add_one_mul_self (2 * n + e) (b := 2 * e) (by omega)
  generalize hv : (2 * n + e) / (2 * e) = v at *
  have e1 : v * (2 * e) = 2 * v * e := by rw [Int.mul_left_comm, Int.mul_assoc]
  have e2 : (v + 1) * (2 * e) = 2 * v * e + 2 * e := by rw [Int.add_mul, e1, Int.one_mul]
  refine near_app h1 f1 ?_
  rw [hv]
  exact q v (by omega) (by omega) (by omega) (by omega)

theorem sg_opp (x y : Int) : sg (x - y) = -sg (y - x) := by
  rw [← sg_neg]
  congr 1
  omega
theorem of_dec {p : Prop} [Decidable p] {Q : VK} {H : Hp} (h : p) (q : Q (.bl true) H) : Q (.bl (decide p)) H := by
  rw [decide_eq_true h]
  exact q
theorem DeckAt.ne' {K : PySem.W.Frag} {H : Hp} {d p : Addr} (hp : H p = none) (h : DeckAt K H d) : p ≠ d := h.ne hp
end Fl

set_option Elab.async false
set_option linter.all false
set_option maxRecDepth 100000
set_option maxHeartbeats 4000000
set_option exponentiation.threshold 20000
/-! fractions as numbers -/
namespace Fl
open PySem PySem.Spec PyProof.Rows L2

theorem gg_comm (p q : Int) : gg p q = ((Int.gcd q p : Nat) : Int) := by
  unfold gg Int.gcd
  rw [Nat.gcd_comm]
theorem rp_num {p q : Int} (h : q ≠ 0) : rp p q = (Rat.divInt p q).num := by
  rw [Rat.num_divInt, ← gg_comm]
  have hg := gg_pos (p := p) h
  obtain ⟨k, hk⟩ := gg_dvd_l p q
  have e : p / gg p q = k := Int.ediv_eq_of_eq_mul_right (by omega) hk
  unfold rp
  rw [e]
  split
  · rename_i hq
    rw [Int.sign_eq_neg_one_of_neg hq]
    refine (Int.ediv_eq_of_eq_mul_right (by omega) ?_).symm
    rw [Int.mul_neg, ← hk, Int.neg_mul, Int.one_mul]
  · rw [Int.sign_eq_one_of_pos (by omega), Int.one_mul, e]
theorem rq_den {p q : Int} (h : q ≠ 0) : rq p q = ((Rat.divInt p q).den : Int) := by
  rw [Rat.den_divInt, if_neg h]
  have hg := gg_pos (p := p) h
  obtain ⟨k, hk⟩ := gg_dvd_r p q
  have e : q / gg p q = k := Int.ediv_eq_of_eq_mul_right (by omega) hk
  have e2 : ((q.natAbs / Int.gcd q p : Nat) : Int) = (q.natAbs : Int) / gg p q := by
    rw [gg_comm]
    exact Int.natCast_ediv _ _
  rw [e2]
  unfold rq
  rw [e]
  split
  · rename_i hq
    refine (Int.ediv_eq_of_eq_mul_right (by omega) ?_).symm
    rw [Int.mul_neg, ← hk]
    omega
  · refine (Int.ediv_eq_of_eq_mul_right (by omega) ?_).symm
    rw [← hk]
    omega

/-- the fraction x stands at a -/
def RV (K : PySem.W.Frag) (H : Hp) (a : Addr) (x : Rat) : Prop := SqT K H a [.int x.num, .int (x.den : Int)]
theorem RV.ex1 {K : PySem.W.Frag} {d : Addr} {H H' : Hp} {a : Addr} {x : Rat} (e : Ex1 d H H') (n : a ≠ d) (h : RV K H a x) : RV K H' a x := Ex1.t e n h
theorem RV.same {K : PySem.W.Frag} {H H' : Hp} {a : Addr} {x : Rat} (e : Same H H') (h : RV K H a x) : RV K H' a x := Same.t e h
theorem RV.sq {K : PySem.W.Frag} {H : Hp} {a : Addr} {x : Rat} (h : RV K H a x) : SqT K H a [.int x.num, .int (x.den : Int)] := h
/-- of moderate size -/
structure Md (x : Rat) : Prop where
  n : x.num.natAbs < 2 ^ 900
  d : x.den < 2 ^ 900
structure Szq (k : Nat) (x : Rat) : Prop where
  n : x.num.natAbs < 2 ^ k
  d : x.den < 2 ^ k
theorem Szq.md {k : Nat} {x : Rat} (h : Szq k x) (hk : k ≤ 900) : Md x :=
  ⟨Nat.lt_of_lt_of_le h.n (Nat.pow_le_pow_right (by decide) hk), Nat.lt_of_lt_of_le h.d (Nat.pow_le_pow_right (by decide) hk)⟩
theorem szq_div {p q : Int} {k : Nat} (h : q ≠ 0) (h1 : p.natAbs < 2 ^ k) (h2 : q.natAbs < 2 ^ k) : Szq k (Rat.divInt p q) := by
  have e1 := rp_abs p q h
  have e2 := rq_abs p q h
  rw [rp_num h] at e1
  rw [rq_den h] at e2
  exact ⟨by omega, by omega⟩
theorem pw_add {a b j k : Nat} (ha : a < 2 ^ j) (hb : b < 2 ^ k) : a * b < 2 ^ (j + k) := by
  rw [Nat.pow_add]
  exact Nat.mul_lt_mul'' ha hb
theorem add_div (x y : Rat) : Rat.divInt (x.num * y.den + y.num * x.den) ((x.den : Int) * y.den) = x + y := by
  rw [Rat.add_def', ← Rat.divInt_ofNat, Int.natCast_mul]
theorem sub_div (x y : Rat) : Rat.divInt (x.num * y.den - y.num * x.den) ((x.den : Int) * y.den) = x - y := by
  rw [Rat.sub_def', ← Rat.divInt_ofNat, Int.natCast_mul]
theorem mul_div' (x y : Rat) : Rat.divInt (x.num * y.num) ((x.den : Int) * y.den) = x * y := by
  rw [Rat.mul_def', ← Rat.divInt_ofNat, Int.natCast_mul]
theorem div_div' (x y : Rat) : Rat.divInt (x.num * y.den) ((x.den : Int) * y.num) = x / y := by
  rw [Rat.div_def, Rat.inv_def]
  conv => rhs; rw [← Rat.num_divInt_den x]
  rw [Rat.divInt_mul_divInt]
theorem den0 (x : Rat) : (x.den : Int) ≠ 0 := by
  have := x.den_nz
  omega
theorem sz_cross {x y : Rat} {j k : Nat} (hx : Szq j x) (hy : Szq k y) : (x.num * y.den).natAbs < 2 ^ (j + k) ∧ (y.num * x.den).natAbs < 2 ^ (j + k) ∧ ((x.den : Int) * y.den).natAbs < 2 ^ (j + k) ∧ (x.num * y.num).natAbs < 2 ^ (j + k) ∧ ((x.den : Int) * y.num).natAbs < 2 ^ (j + k) := by
  simp only [Int.natAbs_mul, Int.natAbs_natCast]
  refine ⟨pw_add hx.n hy.d, ?_, pw_add hx.d hy.d, pw_add hx.n hy.n, pw_add hx.d hy.n⟩
  rw [Nat.mul_comm]
  exact pw_add hx.d hy.n
theorem Szq.add {x y : Rat} {j k : Nat} (hx : Szq j x) (hy : Szq k y) : Szq (j + k + 1) (x + y) := by
  obtain ⟨h1, h2, h3, h4, h5⟩ := sz_cross hx hy
  rw [← add_div]
  have e : 2 ^ (j + k + 1) = 2 * 2 ^ (j + k) := by rw [Nat.pow_succ, Nat.mul_comm]
  exact szq_div (Int.mul_ne_zero (den0 x) (den0 y)) (by omega) (by omega)
theorem Szq.sub {x y : Rat} {j k : Nat} (hx : Szq j x) (hy : Szq k y) : Szq (j + k + 1) (x - y) := by
  obtain ⟨h1, h2, h3, h4, h5⟩ := sz_cross hx hy
  rw [← sub_div]
  have e : 2 ^ (j + k + 1) = 2 * 2 ^ (j + k) := by rw [Nat.pow_succ, Nat.mul_comm]
  exact szq_div (Int.mul_ne_zero (den0 x) (den0 y)) (by omega) (by omega)
theorem Szq.mul {x y : Rat} {j k : Nat} (hx : Szq j x) (hy : Szq k y) : Szq (j + k) (x * y) := by
  obtain ⟨h1, h2, h3, h4, h5⟩ := sz_cross hx hy
  rw [← mul_div']
  exact szq_div (Int.mul_ne_zero (den0 x) (den0 y)) (by omega) (by omega)
theorem num0 {x : Rat} (h : x ≠ 0) : x.num ≠ 0 := fun e => h (Rat.num_eq_zero.mp e)
theorem Szq.div {x y : Rat} {j k : Nat} (hx : Szq j x) (hy : Szq k y) (h : y ≠ 0) : Szq (j + k) (x / y) := by
  obtain ⟨h1, h2, h3, h4, h5⟩ := sz_cross hx hy
  rw [← div_div']
  exact szq_div (Int.mul_ne_zero (den0 x) (num0 h)) (by omega) (by omega)
theorem Fra.rat_of {n e : Int} (h : Fra n e) : ∃ x : Rat, x.num = n ∧ (x.den : Int) = e ∧ Szq 41 x := by
  have hp := h.pos
  obtain ⟨k, rfl⟩ : ∃ k : Nat, e = (k : Int) := ⟨e.toNat, by omega⟩
  refine ⟨⟨n, k, by omega, h.cop⟩, rfl, rfl, ?_, ?_⟩
  · have := h.bn
    show n.natAbs < _
    have e : (10 : Nat) ^ 12 < 2 ^ 41 := by decide
    omega
  · have := h.be
    show k < _
    have e : (10 : Nat) ^ 12 < 2 ^ 41 := by decide
    omega

/-! promises -/
def spRatP : Sp := spRat
def spBin (K : PySem.W.Frag) (f : Rat → Rat → Rat) (pre : Rat → Rat → Prop) : Sp := fun vs H Q _ => ∃ (a b : Addr) (x y : Rat), vs = [.ref a, .ref b] ∧ RV K H a x ∧ RV K H b y ∧ Md x ∧ Md y ∧ pre x y ∧
  ∀ t H', H t = none → Same H H' → RV K H' t (f x y) → Q (.ref t) H'
theorem bin_app {K : PySem.W.Frag} {f : Rat → Rat → Rat} {pre : Rat → Rat → Prop} {a b : Addr} {x y : Rat} {H : Hp} {Q : VK} {E : XK} (h1 : RV K H a x) (h2 : RV K H b y) (m1 : Md x) (m2 : Md y) (hp : pre x y)
  (k : ∀ t H', H t = none → Same H H' → RV K H' t (f x y) → Q (.ref t) H') : spBin K f pre [.ref a, .ref b] H Q E := ⟨a, b, x, y, rfl, h1, h2, m1, m2, hp, k⟩
def cq (x y : Rat) : Int := if x < y then -1 else if y < x then 1 else 0
def spCq (K : PySem.W.Frag) : Sp := fun vs H Q _ => ∃ (a b : Addr) (x y : Rat), vs = [.ref a, .ref b] ∧ RV K H a x ∧ RV K H b y ∧ Md x ∧ Md y ∧ Q (.int (cq x y)) H
theorem cq_app {K : PySem.W.Frag} {a b : Addr} {x y : Rat} {H : Hp} {Q : VK} {E : XK} (h1 : RV K H a x) (h2 : RV K H b y) (m1 : Md x) (m2 : Md y) (q : Q (.int (cq x y)) H) : spCq K [.ref a, .ref b] H Q E := ⟨a, b, x, y, rfl, h1, h2, m1, m2, q⟩
theorem cq_add (x y z : Rat) : cq (x + z) (y + z) = cq x y := by
  unfold cq
  simp only [Rat.add_lt_add_right]
def nr (x : Rat) : Int := (2 * x.num + x.den) / (2 * x.den)
def spNr (K : PySem.W.Frag) : Sp := fun vs H Q _ => ∃ (a : Addr) (x : Rat), vs = [.ref a] ∧ RV K H a x ∧ Md x ∧ Q (.int (nr x)) H
theorem nr_app {K : PySem.W.Frag} {a : Addr} {x : Rat} {H : Hp} {Q : VK} {E : XK} (h1 : RV K H a x) (m1 : Md x) (q : Q (.int (nr x)) H) : spNr K [.ref a] H Q E := ⟨a, x, rfl, h1, m1, q⟩
def spRatq (K : PySem.W.Frag) : Sp := fun vs H Q _ => ∃ (p q : Int), vs = [.int p, .int q] ∧ q ≠ 0 ∧ p.natAbs < 2 ^ 1900 ∧ q.natAbs < 2 ^ 1900 ∧ ∀ t H', H t = none → Same H H' → RV K H' t (Rat.divInt p q) → Q (.ref t) H'
theorem ratq_app {K : PySem.W.Frag} {p q : Int} {H : Hp} {Q : VK} {E : XK} (h : q ≠ 0) (h1 : p.natAbs < 2 ^ 1900) (h2 : q.natAbs < 2 ^ 1900) (k : ∀ t H', H t = none → Same H H' → RV K H' t (Rat.divInt p q) → Q (.ref t) H') : spRatq K [.int p, .int q] H Q E := ⟨p, q, rfl, h, h1, h2, k⟩
theorem nr_add (x : Rat) (w : Int) : nr (x + Rat.divInt w 1) = nr x + w := by
  generalize hy : x + Rat.divInt w 1 = y
  have key : y.num * x.den = (x.num + w * x.den) * y.den := by
    have e : Rat.divInt (x.num + w * x.den) x.den = y := by
      rw [← hy]
      conv => rhs; lhs; rw [← Rat.num_divInt_den x]
      rw [Rat.divInt_add_divInt _ _ (den0 x) (by decide), Int.mul_one, Int.mul_one]
    rw [← Rat.num_divInt_den y] at e
    exact ((Rat.divInt_eq_divInt_iff (den0 x) (den0 y)).mp e).symm
  unfold nr
  have hx := x.den_pos
  have hyp := y.den_pos
  generalize x.num = n at *
  generalize (y.num) = m at *
  have hx' : (0 : Int) < x.den := by omega
  have hy' : (0 : Int) < y.den := by omega
  generalize (x.den : Int) = e at *
  generalize (y.den : Int) = k at *
  have c1 := Int.ediv_mul_le (2 * n + e) (b := 2 * e) (by omega)
  have c2 := Int.lt_ediv_add_one_mul_self (2 * n + e) (b := 2 * e) (by omega)
  generalize (2 * n + e) / (2 * e) = v at *
  have g1 : (v + w) * (2 * k) ≤ 2 * m + k := by
    refine Int.le_of_mul_le_mul_right (a := e) ?_ hx'
    have h1 : v * (2 * e) * k ≤ (2 * n + e) * k := Int.mul_le_mul_of_nonneg_right c1 (by omega)
    have e1 : (v + w) * (2 * k) * e = v * (2 * e) * k + 2 * (w * e * k) := by grind
    have e2 : (2 * m + k) * e = 2 * (m * e) + k * e := by grind
    rw [e1, e2, key]
    have e3 : 2 * ((n + w * e) * k) + k * e = (2 * n + e) * k + 2 * (w * e * k) := by grind
    rw [e3]
    omega
  have g2 : 2 * m + k < (v + w + 1) * (2 * k) := by
    refine Int.lt_of_mul_lt_mul_right (a := e) ?_ (by omega)
    have h1 : (2 * n + e) * k < (v + 1) * (2 * e) * k := Int.mul_lt_mul_of_pos_right c2 hy'
    have e1 : (v + w + 1) * (2 * k) * e = (v + 1) * (2 * e) * k + 2 * (w * e * k) := by grind
    have e2 : (2 * m + k) * e = 2 * (m * e) + k * e := by grind
    rw [e1, e2, key]
    have e3 : 2 * ((n + w * e) * k) + k * e = (2 * n + e) * k + 2 * (w * e * k) := by grind
    rw [e3]
    omega
  have f1 : v + w ≤ (2 * m + k) / (2 * k) := (Int.le_ediv_iff_mul_le (by omega)).mpr g1
  have f2 : (2 * m + k) / (2 * k) < v + w + 1 := (Int.ediv_lt_iff_lt_mul (by omega)).mpr g2
  omega
/-- != of two fractions that are the same number -/
theorem ne_app {K : PySem.W.Frag} {a b : Addr} {x y : Rat} {H : Hp} {Q : VK} (h1 : RV K H a x) (h2 : RV K H b y) (e : x = y) (q : Q (.bl false) H) : rNeD K (.ref a) (.ref b) H Q := by
  subst e
  have d1 : ∀ {a : Addr}, RV K H a x → Dp K H (.ref a) (.tuple [.int x.num, .int x.den]) := fun h => .tup h (.cons (.int _) (.cons (.int _) .nil))
  refine ⟨_, _, d1 h1, d1 h2, rfl, rfl, ?_⟩
  have e2 : PyData.eqv (.tuple [.int x.num, .int x.den]) (.tuple [.int x.num, .int x.den]) = true := SeqAt.eqv_refl _ rfl
  rw [e2]
  exact q
theorem g_neD {r : R2} {x y : V} {H : Hp} {Q : VK} (h : r x y H Q) : r x y H Q := h

theorem Md.big {x : Rat} (h : Md x) : x.num.natAbs < 2 ^ 4000 ∧ ((x.den : Int)).natAbs < 2 ^ 4000 := by
  have h1 := h.n
  have h2 := h.d
  have e : (2 : Nat) ^ 900 < 2 ^ 4000 := by decide +kernel
  constructor <;> omega
theorem md_cross {x y : Rat} (hx : Md x) (hy : Md y) : (x.num * y.den + y.num * x.den).natAbs < 2 ^ 1900 ∧ (x.num * y.den - y.num * x.den).natAbs < 2 ^ 1900 ∧ ((x.den : Int) * y.den).natAbs < 2 ^ 1900 ∧ (x.num * y.num).natAbs < 2 ^ 1900 ∧ ((x.den : Int) * y.num).natAbs < 2 ^ 1900 ∧ (x.num * y.den).natAbs < 2 ^ 1900 := by
  obtain ⟨h1, h2, h3, h4, h5⟩ := sz_cross (j := 900) (k := 900) ⟨hx.n, hx.d⟩ ⟨hy.n, hy.d⟩
  have e : 2 * 2 ^ (900 + 900) < (2 : Nat) ^ 1900 := by decide +kernel
  refine ⟨?_, ?_, ?_, ?_, ?_, ?_⟩ <;> omega

theorem bigq_app {K : PySem.W.Frag} {d : Addr} {H : Hp} {Q : VK} {E : XK} (h : DeckAt K H d) (k : ∀ t H' (x : Rat), DeckAt K H' d → Ex1 d H H' → t ≠ d → RV K H' t x → Szq 41 x → Q (.ref t) H') : spBig K [.ref d] H Q E := by
  refine big_app h fun t H' n e hD hE hn hS hF => ?_
  obtain ⟨x, rfl, rfl, hz⟩ := hF.rat_of
  exact k t H' x hD hE hn hS hz
theorem ne_of_num {x : Rat} (h : ¬ x.num = 0) : x ≠ 0 := fun e => h (by rw [e]; rfl)
end Fl

set_option Elab.async false
set_option linter.all false
set_option maxRecDepth 100000
set_option maxHeartbeats 4000000
set_option exponentiation.threshold 20000
/-! data at any depth, apart from the addresses S that are being written -/
namespace Fl
open PySem PySem.Spec PyProof.Rows L2

mutual
inductive Dq (S : List Addr) (H : Hp) : V → PyData → Prop
  | non : Dq S H .non .none
  | bl (b : Bool) : Dq S H (.bl b) (.bool b)
  | int (i : Int) : Dq S H (.int i) (.int i)
  | str (x : Str) : Dq S H (.str x) (.str x)
  | lst {a : Addr} {xs : List V} {ds : List PyData} : a ∉ S → H a = some (.lst xs) → DqA S H xs ds → Dq S H (.ref a) (.list ds)
  | tup {a : Addr} {xs : List V} {ds : List PyData} : a ∉ S → H a = some (.tup xs) → DqA S H xs ds → Dq S H (.ref a) (.tuple ds)
  | ins {a C dx : Addr} {fs : List (Str × V)} {ds : List (PyData × PyData)} : a ∉ S → H a = some (.ins C dx fs) → DqF S H fs ds → Dq S H (.ref a) (.dict ((.none, .int (C : Int)) :: ds))
inductive DqA (S : List Addr) (H : Hp) : List V → List PyData → Prop
  | nil : DqA S H [] []
  | cons {v : V} {vs : List V} {d : PyData} {ds : List PyData} : Dq S H v d → DqA S H vs ds → DqA S H (v :: vs) (d :: ds)
inductive DqF (S : List Addr) (H : Hp) : List (Str × V) → List (PyData × PyData) → Prop
  | nil : DqF S H [] []
  | cons {n : Str} {v : V} {fs : List (Str × V)} {d : PyData} {ds : List (PyData × PyData)} : Dq S H v d → DqF S H fs ds → DqF S H ((n, v) :: fs) ((.str n, d) :: ds)
end
mutual
theorem Dq.to {S S' : List Addr} {H H' : Hp} (k : ∀ a o, a ∉ S → H a = some o → a ∉ S' ∧ H' a = some o) : ∀ {v : V} {d : PyData}, Dq S H v d → Dq S' H' v d
  | _, _, .non => .non
  | _, _, .bl b => .bl b
  | _, _, .int i => .int i
  | _, _, .str x => .str x
  | _, _, .lst n h r => .lst (k _ _ n h).1 (k _ _ n h).2 (DqA.to k r)
  | _, _, .tup n h r => .tup (k _ _ n h).1 (k _ _ n h).2 (DqA.to k r)
  | _, _, .ins n h r => .ins (k _ _ n h).1 (k _ _ n h).2 (DqF.to k r)
theorem DqA.to {S S' : List Addr} {H H' : Hp} (k : ∀ a o, a ∉ S → H a = some o → a ∉ S' ∧ H' a = some o) : ∀ {vs : List V} {ds : List PyData}, DqA S H vs ds → DqA S' H' vs ds
  | _, _, .nil => .nil
  | _, _, .cons h r => .cons (Dq.to k h) (DqA.to k r)
theorem DqF.to {S S' : List Addr} {H H' : Hp} (k : ∀ a o, a ∉ S → H a = some o → a ∉ S' ∧ H' a = some o) : ∀ {fs : List (Str × V)} {ds : List (PyData × PyData)}, DqF S H fs ds → DqF S' H' fs ds
  | _, _, .nil => .nil
  | _, _, .cons h r => .cons (Dq.to k h) (DqF.to k r)
end
mutual
theorem Dq.dp {S : List Addr} {H : Hp} {K : PySem.W.Frag} : ∀ {v : V} {d : PyData}, Dq S H v d → d.hasDict = false → Dp K H v d
  | _, _, .non, _ => .non
  | _, _, .bl b, _ => .bl b
  | _, _, .int i, _ => .int i
  | _, _, .str x, _ => .str x
  | _, _, .lst _ h r, n => .lst (SqL.of h) (DqA.dp r (by simpa [PyData.hasDict] using n))
  | _, _, .tup _ h r, n => .tup (SqT.of h) (DqA.dp r (by simpa [PyData.hasDict] using n))
  | _, _, .ins _ _ _, n => by simp [PyData.hasDict] at n
theorem DqA.dp {S : List Addr} {H : Hp} {K : PySem.W.Frag} : ∀ {vs : List V} {ds : List PyData}, DqA S H vs ds → PyData.hasDictAll ds = false → DpAll K H vs ds
  | _, _, .nil, _ => .nil
  | _, _, .cons h r, n => .cons (Dq.dp h (by simp [PyData.hasDictAll] at n; exact n.1)) (DqA.dp r (by simp [PyData.hasDictAll] at n; exact n.2))
end
mutual
theorem nodict_lay : ∀ d : PyData, d.canLay0 = true → d.hasDict = false
  | .none, _ | .bool _, _ | .int _, _ | .str _, _ => rfl
  | .list xs, h => by
    simp only [PyData.hasDict]
    exact nodictAll_lay xs (by simpa [PyData.canLay0] using h)
  | .tuple xs, h => by
    simp only [PyData.hasDict]
    exact nodictAll_lay xs (by simpa [PyData.canLay0] using h)
  | .dict _, h => by simp [PyData.canLay0] at h
theorem nodictAll_lay : ∀ ds : List PyData, PyData.canLayAll0 ds = true → PyData.hasDictAll ds = false
  | [], _ => rfl
  | d :: ds, h => by
    simp [PyData.canLayAll0] at h
    simp [PyData.hasDictAll, nodict_lay d h.1, nodictAll_lay ds h.2]
end
theorem nodict_sh {d : PyData} (h : SeqAt.shaped d = true) : d.hasDict = false := by
  unfold SeqAt.shaped at h
  simp only [Bool.and_eq_true] at h
  exact nodict_lay d h.1
/-- all but what stands at S stands -/
def Fr (S : List Addr) (H H' : Hp) : Prop := ∀ a o, a ∉ S → H a = some o → H' a = some o
/-- these are there -/
def Al (S : List Addr) (H : Hp) : Prop := ∀ a, a ∈ S → H a ≠ none
section
variable {S T : List Addr} {H H' H2 : Hp} {a p D : Addr} {v : V} {d : PyData} {vs ws : List V} {ds es : List PyData} {o : HO}
theorem Fr.refl : Fr S H H := fun _ _ _ h => h
theorem Fr.trans (h : Fr S H H') (k : Fr S H' H2) : Fr S H H2 := fun a o n e => k a o n (h a o n e)
theorem Fr.mono (h : Fr S H H') (k : ∀ a, a ∈ S → a ∈ T) : Fr T H H' := fun a o n e => h a o (fun m => n (k a m)) e
theorem Fr.same (h : Same H H') : Fr S H H' := fun a o _ e => h a o e
theorem Fr.new (h : H p = none) : Fr S H (upd H p o) := Fr.same (Fl.Same.new h)
theorem Fr.upd (h : p ∈ S) : Fr S H (upd H p o) := fun a u n e => by
  rw [upd_ne (fun q => n (by rw [q]; exact h))]
  exact e
theorem Fr.sm (h : Fr [] H H') : Same H H' := fun a o e => h a o (List.not_mem_nil) e
theorem Al.nil : Al [] H := fun a h => nomatch h
theorem Al.cons (h : H a ≠ none) (k : Al S H) : Al (a :: S) H := fun b m => by
  rcases List.mem_cons.mp m with rfl | m
  · exact h
  · exact k b m
theorem Al.same (k : Al S H) (e : Same H H') : Al S H' := fun b m q => by
  cases z : H b with
  | none => exact k b m z
  | some o => rw [e b o z] at q; cases q
theorem Al.fr (k : Al S H) (e : Fr T H H') (k2 : Al T H') : Al S H' := fun b m q => by
  by_cases hb : b ∈ T
  · exact k2 b hb q
  · cases z : H b with
    | none => exact k b m z
    | some o => rw [e b o hb z] at q; cases q
theorem Al.ni (k : Al S H) (e : H p = none) : p ∉ S := fun m => k p m e
theorem Dq.fr (h : Dq S H v d) (e : Fr S H H') : Dq S H' v d := h.to fun a o n q => ⟨n, e a o n q⟩
theorem Dq.same (h : Dq S H v d) (e : Same H H') : Dq S H' v d := h.fr (Fr.same e)
theorem Dq.mono (h : Dq S H v d) (k : ∀ a, a ∈ T → a ∈ S) : Dq T H v d := h.to fun a o n q => ⟨fun m => n (k a m), q⟩
theorem Dq.new (h : Dq S H v d) (e : H D = none) : Dq (D :: S) H v d := h.to fun a o n q => ⟨fun m => by
  rcases List.mem_cons.mp m with rfl | m
  · rw [e] at q; cases q
  · exact n m, q⟩
theorem Dq.tail (h : Dq (D :: S) H v d) : Dq S H v d := h.mono fun _ m => List.mem_cons_of_mem _ m
theorem DqA.fr (h : DqA S H vs ds) (e : Fr S H H') : DqA S H' vs ds := h.to fun a o n q => ⟨n, e a o n q⟩
theorem DqA.same (h : DqA S H vs ds) (e : Same H H') : DqA S H' vs ds := h.fr (Fr.same e)
theorem DqA.mono (h : DqA S H vs ds) (k : ∀ a, a ∈ T → a ∈ S) : DqA T H vs ds := h.to fun a o n q => ⟨fun m => n (k a m), q⟩
theorem DqA.new (h : DqA S H vs ds) (e : H D = none) : DqA (D :: S) H vs ds := h.to fun a o n q => ⟨fun m => by
  rcases List.mem_cons.mp m with rfl | m
  · rw [e] at q; cases q
  · exact n m, q⟩
theorem DqA.tail (h : DqA (D :: S) H vs ds) : DqA S H vs ds := h.mono fun _ m => List.mem_cons_of_mem _ m
theorem DqA.len : ∀ {vs : List V} {ds : List PyData}, DqA S H vs ds → vs.length = ds.length
  | _, _, .nil => rfl
  | _, _, .cons _ r => congrArg (· + 1) (DqA.len r)
theorem DqA.app : ∀ {vs : List V} {ds : List PyData}, DqA S H vs ds → DqA S H ws es → DqA S H (vs ++ ws) (ds ++ es)
  | _, _, .nil, k => k
  | _, _, .cons h r, k => .cons h (DqA.app r k)
theorem DqA.one (h : Dq S H v d) : DqA S H [v] [d] := .cons h .nil
theorem DqA.drop : ∀ {vs : List V} {ds : List PyData} (n : Nat), DqA S H vs ds → DqA S H (vs.drop n) (ds.drop n)
  | _, _, 0, h => h
  | _, _, _ + 1, .nil => .nil
  | _, _, n + 1, .cons _ r => DqA.drop n r
theorem DqA.take : ∀ {vs : List V} {ds : List PyData} (n : Nat), DqA S H vs ds → DqA S H (vs.take n) (ds.take n)
  | _, _, 0, _ => .nil
  | _, _, _ + 1, .nil => .nil
  | _, _, n + 1, .cons h r => .cons h (DqA.take n r)
theorem DqA.rev : ∀ {vs : List V} {ds : List PyData}, DqA S H vs ds → DqA S H vs.reverse ds.reverse
  | _, _, .nil => .nil
  | _, _, .cons h r => by
    rw [List.reverse_cons, List.reverse_cons]
    exact (DqA.rev r).app (.one h)
theorem DqA.get : ∀ {vs : List V} {ds : List PyData} {i : Nat}, DqA S H vs ds → vs[i]? = some v → ∃ d, ds[i]? = some d ∧ Dq S H v d
  | _, _, _, .nil, e => by simp at e
  | _, _, 0, .cons h _, e => by simp at e; subst e; exact ⟨_, rfl, h⟩
  | _, _, i + 1, .cons _ r, e => by
    obtain ⟨d, h1, h2⟩ := DqA.get (i := i) r (by simpa using e)
    exact ⟨d, by simpa using h1, h2⟩
theorem DqA.getD : ∀ {vs : List V} {ds : List PyData} {i : Nat}, DqA S H vs ds → ds[i]? = some d → ∃ v, vs[i]? = some v ∧ Dq S H v d
  | _, _, _, .nil, e => by simp at e
  | _, _, 0, .cons h _, e => by simp at e; subst e; exact ⟨_, rfl, h⟩
  | _, _, i + 1, .cons _ r, e => by
    obtain ⟨v, h1, h2⟩ := DqA.getD (i := i) r (by simpa using e)
    exact ⟨v, by simpa using h1, h2⟩
theorem Dq.lstE (h : Dq S H v (.list ds)) : ∃ a xs, v = .ref a ∧ a ∉ S ∧ H a = some (.lst xs) ∧ DqA S H xs ds := by
  cases h with
  | lst n q r => exact ⟨_, _, rfl, n, q, r⟩
theorem Dq.tupE (h : Dq S H v (.tuple ds)) : ∃ a xs, v = .ref a ∧ a ∉ S ∧ H a = some (.tup xs) ∧ DqA S H xs ds := by
  cases h with
  | tup n q r => exact ⟨_, _, rfl, n, q, r⟩
theorem Dq.intE {i : Int} (h : Dq S H v (.int i)) : v = .int i := by cases h; rfl
theorem Dq.blE {b : Bool} (h : Dq S H v (.bool b)) : v = .bl b := by cases h; rfl
theorem Dq.nonE (h : Dq S H v .none) : v = .non := by cases h; rfl
theorem DqA.nilE (h : DqA S H vs []) : vs = [] := by cases h; rfl
theorem DqA.consE (h : DqA S H vs (d :: ds)) : ∃ v ws, vs = v :: ws ∧ Dq S H v d ∧ DqA S H ws ds := by
  cases h with
  | cons h r => exact ⟨_, _, rfl, h, r⟩
end
/-- a new list or tuple of data -/
theorem Dq.newL {S : List Addr} {H : Hp} {p : Addr} {xs : List V} {ds : List PyData} (k : Al S H) (e : H p = none) (h : DqA S H xs ds) : Dq S (upd H p (.lst xs)) (.ref p) (.list ds) :=
  .lst (k.ni e) upd_same (h.fr (Fr.new e))
theorem Dq.newT {S : List Addr} {H : Hp} {p : Addr} {xs : List V} {ds : List PyData} (k : Al S H) (e : H p = none) (h : DqA S H xs ds) : Dq S (upd H p (.tup xs)) (.ref p) (.tuple ds) :=
  .tup (k.ni e) upd_same (h.fr (Fr.new e))

/-- a function of data: nothing that stands is changed -/
def spD (f : List PyData → PyData → Prop) : Sp := fun vs H Q _ => ∃ S ds d, Al S H ∧ DqA S H vs ds ∧ f ds d ∧ ∀ v H', Same H H' → Dq S H' v d → Q v H'
theorem spD_app {f : List PyData → PyData → Prop} {vs : List V} {H : Hp} {Q : VK} {E : XK} (S : List Addr) (ds : List PyData) (d : PyData) (hS : Al S H) (hd : DqA S H vs ds) (hf : f ds d) (q : ∀ v H', Same H H' → Dq S H' v d → Q v H') : spD f vs H Q E :=
  ⟨S, ds, d, hS, hd, hf, q⟩

/-! ### points -/
abbrev Pt := Int × Int × Bool
def ptD (p : Pt) : PyData := .tuple [.int p.1, .int p.2.1, .bool p.2.2]
def ctD (c : List Pt) : PyData := .list (c.map ptD)
def ouD (o : List (List Pt)) : PyData := .list (o.map ctD)
theorem ptE {S : List Addr} {H : Hp} {v : V} {p : Pt} (h : Dq S H v (ptD p)) : ∃ a, v = .ref a ∧ a ∉ S ∧ H a = some (.tup [.int p.1, .int p.2.1, .bl p.2.2]) := by
  obtain ⟨a, xs, rfl, n, q, r⟩ := h.tupE
  obtain ⟨x1, w1, rfl, h1, r⟩ := r.consE
  obtain ⟨x2, w2, rfl, h2, r⟩ := r.consE
  obtain ⟨x3, w3, rfl, h3, r⟩ := r.consE
  cases r.nilE
  cases h1.intE
  cases h2.intE
  cases h3.blE
  exact ⟨a, rfl, n, q⟩
theorem ptI {S : List Addr} {H : Hp} {a : Addr} {x y : Int} {b : Bool} (n : a ∉ S) (q : H a = some (.tup [.int x, .int y, .bl b])) : Dq S H (.ref a) (ptD (x, y, b)) := .tup n q (.cons (.int _) (.cons (.int _) (.cons (.bl _) .nil)))

/-! ### comprehensions -/
section
variable {H1 : Hp} {Q : VK} {g : TG} {tt : TT} {te : TE} {tb : TS} {vs : List Nat} {σ : L2.St} {D : Ends}
/-- what is left of a comprehension when it is known what is walked -/
def lcK (J : It) (g : TG) (tt : TT) (te : TE) (vs : List Nat) (σ : L2.St) (H1 : Hp) (Q : VK) : Prop :=
  ∀ B, H1 B = none → ∃ W : Nat → Nat → Hp → Prop, (∃ m, W 0 m (upd H1 B (.lst []))) ∧ ∀ i m H, W i m H →
    (J.stop i H ∧ Q (.ref B) H) ∨ (J.go i H ∧ ∃ Nx : Hp → Prop, (∀ H', Nx H' → ∃ m', m' < m ∧ W (i + 1) m' H') ∧
      ∀ x H', J.yld i H x H' → g x (wipe σ vs) H' fun σ2 H2 => wipe σ2 vs = wipe σ vs ∧ tt σ2 H2 fun b H3 =>
        if b = true then te σ2 H3 fun y H4 => ∃ acc, H4 B = some (.lst acc) ∧ acc.length < sizeLine ∧ Nx (upd H4 B (.lst (acc ++ [y]))) else Nx H3)
/-- the same of a loop -/
def forK (J : It) (g : TG) (tb : TS) (D : Ends) (σ : L2.St) (H1 : Hp) : Prop :=
  ∃ W : Nat → Nat → L2.St → Hp → Prop, (∃ m, W 0 m σ H1) ∧ ∀ i m σ H, W i m σ H →
    (J.stop i H ∧ D.nx σ H) ∨ (J.go i H ∧ ∃ N : L2.St → Hp → Prop, (∀ σ' H', N σ' H' → ∃ m', m' < m ∧ W (i + 1) m' σ' H') ∧
      ∀ x H', J.yld i H x H' → g x σ H' fun σ2 H2 => tb { D with nx := N, ct := N, bk := D.nx } σ2 H2)
end
section
variable {S : List Addr} {H1 : Hp} {K : PySem.W.Frag} {g : TG} {tt : TT} {te : TE} {vs : List Nat} {σ : L2.St} {Q : VK}
theorem fm_succ {f : Nat → Option PyData} (i : Nat) : (List.range (i + 1)).filterMap f = (List.range i).filterMap f ++ (f i).toList := by
  rw [List.range_succ, List.filterMap_append]
  cases h : f i <;> simp [h]
theorem sm_of {D : Addr} {H : Hp} (hD : H1 D = none) (f : Fr [D] H1 H) : Same H1 H := fun b o q => f b o (fun m => by
  have : b = D := by simpa using m
  rw [this, hD] at q; cases q) q
/-- the list D at turn i: the items that f has given so far -/
structure CompAt (S : List Addr) (H1 : Hp) (D : Addr) (f : Nat → Option PyData) (i : Nat) (H : Hp) : Prop where
  ex : ∃ acc, H D = some (.lst acc) ∧ DqA (D :: S) H acc ((List.range i).filterMap f)
  fr : Fr [D] H1 H
theorem CompAt.zero {D : Addr} {f : Nat → Option PyData} (hD : H1 D = none) : CompAt S H1 D f 0 (upd H1 D (.lst [])) := ⟨⟨[], upd_same, .nil⟩, Fr.same (Fl.Same.new hD)⟩
theorem CompAt.same {D : Addr} {f : Nat → Option PyData} {i : Nat} {H H' : Hp} (h : CompAt S H1 D f i H) (e : Same H H') : CompAt S H1 D f i H' := by
  obtain ⟨⟨acc, h1, h2⟩, h3⟩ := h
  exact ⟨⟨acc, e _ _ h1, h2.same e⟩, h3.trans (Fr.same e)⟩
theorem CompAt.skip {D : Addr} {f : Nat → Option PyData} {i : Nat} {H : Hp} (h : CompAt S H1 D f i H) (e : f i = none) : CompAt S H1 D f (i + 1) H := by
  obtain ⟨⟨acc, h1, h2⟩, h3⟩ := h
  refine ⟨⟨acc, h1, ?_⟩, h3⟩
  rw [fm_succ, e]
  simpa using h2
theorem CompAt.len {D : Addr} {f : Nat → Option PyData} {i : Nat} {H : Hp} (h : CompAt S H1 D f i H) (hi : i < 1000) : ∀ acc, H D = some (.lst acc) → acc.length < sizeLine := by
  obtain ⟨⟨acc, h1, h2⟩, h3⟩ := h
  intro acc' h'
  rw [h1] at h'
  cases h'
  have e := h2.len
  have e2 := List.length_filterMap_le f (List.range i)
  rw [List.length_range] at e2
  have : (1000 : Nat) ≤ sizeLine := by decide
  omega
theorem CompAt.put {D : Addr} {f : Nat → Option PyData} {i : Nat} {H H4 : Hp} {y : V} {r : PyData} (h : CompAt S H1 D f i H) (hi : i < 1000) (e : f i = some r) (s : Same H H4) (d : Dq (D :: S) H4 y r) :
    ∃ acc, H4 D = some (.lst acc) ∧ acc.length < sizeLine ∧ CompAt S H1 D f (i + 1) (upd H4 D (.lst (acc ++ [y]))) := by
  have h4 := h.same s
  obtain ⟨⟨acc, h1, h2⟩, h3⟩ := h4
  refine ⟨acc, h1, (h.same s).len hi acc h1, ⟨acc ++ [y], upd_same, ?_⟩, h3.trans (Fr.upd (by simp))⟩
  rw [fm_succ, e]
  exact (h2.app (.one d)).fr (Fr.upd (by simp))
theorem CompAt.al {D : Addr} {f : Nat → Option PyData} {i : Nat} {H : Hp} (h : CompAt S H1 D f i H) (hS : Al S H1) (hD : H1 D = none) : Al (D :: S) H := by
  obtain ⟨⟨acc, h1, h2⟩, h3⟩ := h
  exact .cons (by rw [h1]; simp) (hS.same (sm_of hD h3))
theorem CompAt.fin {D : Addr} {f : Nat → Option PyData} {i : Nat} {H : Hp} (h : CompAt S H1 D f i H) (hS : Al S H1) (hD : H1 D = none) : Dq S H (.ref D) (.list ((List.range i).filterMap f)) := by
  obtain ⟨⟨acc, h1, h2⟩, h3⟩ := h
  exact .lst (hS.ni hD) h1 h2.tail
/-- [elt for x in list if test], nothing changed: es the items, f what becomes of each -/
theorem lcL {a : Addr} {es : List PyData} (f : Nat → Option PyData) (hS : Al S H1) (ha : Dq S H1 (.ref a) (.list es)) (hz : es.length < 1000)
    (step : ∀ (D : Addr) (i : Nat) (x : V) (e : PyData) (H : Hp), H1 D = none → es[i]? = some e → Same H1 H → Al (D :: S) H → Dq (D :: S) H x e →
      ∀ (R : V → Hp → Prop) (N : Hp → Prop), (∀ r y H4, f i = some r → Same H H4 → Dq (D :: S) H4 y r → R y H4) → (f i = none → ∀ H4, Same H H4 → N H4) →
      g x (wipe σ vs) H fun σ2 H2 => wipe σ2 vs = wipe σ vs ∧ tt σ2 H2 fun b H3 => if b = true then te σ2 H3 R else N H3)
    (q : ∀ (D : Addr) (H : Hp), Same H1 H → H1 D = none → Dq S H (.ref D) (.list ((List.range es.length).filterMap f)) → Q (.ref D) H) :
    lcK (Itl K a) g tt te vs σ H1 Q := by
  unfold lcK
  intro D hD
  obtain ⟨a', xs, ea, na, hxs, hall⟩ := ha.lstE
  cases ea
  have hlx := hall.len
  have hDa : a ≠ D := fun e => by rw [e, hD] at hxs; cases hxs
  refine lc_list (xs := xs) (CompAt S H1 D f) (CompAt.zero hD) ?_ ?_ ?_
  · intro i H _ h
    exact SqL.of (h.fr a _ (by simpa using hDa) hxs)
  · intro i x H hx h
    have hlt : i < xs.length := (List.getElem?_eq_some_iff.mp hx).1
    have hsm : Same H1 H := sm_of hD h.fr
    have hall' : DqA (D :: S) H xs es := (hall.new hD).same hsm
    obtain ⟨e, he, hxe⟩ := hall'.get hx
    exact step D i x e H hD he hsm (h.al hS hD) hxe _ _ (fun r y H4 er s d => h.put (by omega) er s d) fun en H4 s => (h.same s).skip en
  · intro H h
    rw [hlx] at h
    exact q D H (sm_of hD h.fr) hD (h.fin hS hD)
/-- the same over range(lo, ..) of n numbers -/
theorem lcR {lo : Int} {n : Nat} (f : Nat → Option PyData) (hS : Al S H1) (hz : n < 1000)
    (step : ∀ (D : Addr) (i : Nat) (H : Hp), H1 D = none → i < n → Same H1 H → Al (D :: S) H →
      ∀ (R : V → Hp → Prop) (N : Hp → Prop), (∀ r y H4, f i = some r → Same H H4 → Dq (D :: S) H4 y r → R y H4) → (f i = none → ∀ H4, Same H H4 → N H4) →
      g (.int (lo + i)) (wipe σ vs) H fun σ2 H2 => wipe σ2 vs = wipe σ vs ∧ tt σ2 H2 fun b H3 => if b = true then te σ2 H3 R else N H3)
    (q : ∀ (D : Addr) (H : Hp), Same H1 H → H1 D = none → Dq S H (.ref D) (.list ((List.range n).filterMap f)) → Q (.ref D) H) :
    lcK (Itr lo n) g tt te vs σ H1 Q := by
  unfold lcK
  intro D hD
  refine lc_range (CompAt S H1 D f) (CompAt.zero hD) ?_ ?_
  · intro i H hlt h
    exact step D i H hD hlt (sm_of hD h.fr) (h.al hS hD) _ _ (fun r y H4 er s d => h.put (by omega) er s d) fun en H4 s => (h.same s).skip en
  · intro H h
    exact q D H (sm_of hD h.fr) hD (h.fin hS hD)
theorem fm_take (rs : List PyData) : ∀ n : Nat, (List.range n).filterMap (fun i => rs[i]?) = rs.take n
  | 0 => by simp
  | n + 1 => by rw [fm_succ, fm_take rs n, List.take_succ]
theorem fm_map {es rs : List PyData} (hl : rs.length = es.length) : (List.range es.length).filterMap (fun i => rs[i]?) = rs := by
  rw [fm_take, List.take_of_length_le (by omega)]
end

/-! ### the deck -/
def Dk (d s : Addr) (ns : List Int) (H : Hp) : Prop := s ≠ d ∧ H s = some (.lst (ns.map V.int)) ∧ ∃ pos rest seed : Int, H d = some (.lst [.ref s, .int pos, .int rest, .int seed]) ∧ 0 ≤ pos
/-- only what stands at d is another -/
def On (d : Addr) (H H' : Hp) : Prop := ∀ b, b ≠ d → H' b = H b
section
variable {d s D : Addr} {ns : List Int} {H H' H2 : Hp} {o : HO} {S : List Addr}
theorem On.refl : On d H H := fun _ _ => rfl
theorem On.trans (h : On d H H') (k : On d H' H2) : On d H H2 := fun b n => (k b n).trans (h b n)
theorem On.upd : On d H (upd H d o) := fun b n => upd_ne n
theorem On.fr (h : On d H H') : Fr [d] H H' := fun a u n e => by
  rw [h a (by simpa using n)]
  exact e
theorem On.frS (h : On d H H') (m : d ∈ S) : Fr S H H' := h.fr.mono fun a k => by
  rw [show a = d by simpa using k]
  exact m
theorem Dk.hd (h : Dk d s ns H) : H d ≠ none := by
  obtain ⟨_, _, _, _, _, e, _⟩ := h
  rw [e]
  simp
theorem Dk.hs (h : Dk d s ns H) : H s ≠ none := by
  obtain ⟨_, e, _⟩ := h
  rw [e]
  simp
theorem Dk.fr (h : Dk d s ns H) (e : Fr S H H') (h1 : d ∉ S) (h2 : s ∉ S) : Dk d s ns H' := by
  obtain ⟨a, b, p, r, q, c, e0⟩ := h
  exact ⟨a, e _ _ h2 b, p, r, q, e _ _ h1 c, e0⟩
theorem Dk.same (h : Dk d s ns H) (e : Same H H') : Dk d s ns H' := h.fr (S := []) (Fr.same e) (by simp) (by simp)
theorem Dk.put (h : Dk d s ns H) (hD : D ≠ d) (hs : D ≠ s) : Dk d s ns (upd H D o) := h.fr (S := [D]) (Fr.upd (by simp)) (by simpa using hD.symm) (by simpa using hs.symm)
theorem Dk.ned (h : Dk d s ns H) (hD : H D = none) : D ≠ d := fun e => h.hd (e ▸ hD)
theorem Dk.nes (h : Dk d s ns H) (hD : H D = none) : D ≠ s := fun e => h.hs (e ▸ hD)
end
def spDk (K : PySem.W.Frag) : Sp := fun vs H Q _ => ∃ (a : Addr) (ns : List Int), vs = [.ref a] ∧ SqL K H a (ns.map V.int) ∧ ∀ d s H', Same H H' → Dk d s ns H' → Q (.ref d) H'
def spDr : Sp := fun vs H Q _ => ∃ (d s : Addr) (ns : List Int) (m : Int), vs = [.ref d, .int m] ∧ Dk d s ns H ∧ 0 < m ∧ m < 10 ^ 62 ∧ ∀ v H', 0 ≤ v → v < m → Dk d s ns H' → On d H H' → Q (.int v) H'
theorem dr_app {d s : Addr} {ns : List Int} {m : Int} {H : Hp} {Q : VK} {E : XK} (h : Dk d s ns H) (h1 : 0 < m) (h2 : m < 10 ^ 62) (k : ∀ v H', 0 ≤ v → v < m → Dk d s ns H' → On d H H' → Q (.int v) H') : spDr [.ref d, .int m] H Q E := ⟨d, s, ns, m, rfl, h, h1, h2, k⟩
/-- how far a point lies -/
def PtIn (b : Int) (p : Pt) : Prop := -b ≤ p.1 ∧ p.1 ≤ b ∧ -b ≤ p.2.1 ∧ p.2.1 ≤ b
def spPt : Sp := fun vs H Q _ => ∃ (S : List Addr) (d s : Addr) (ns : List Int) (far : Int), vs = [.ref d, .int far] ∧ d ∈ S ∧ Al S H ∧ Dk d s ns H ∧ 130 ≤ far ∧ far ≤ 10 ^ 6 ∧
  ∀ t H' p, Fr [d] H H' → Dk d s ns H' → Dq S H' (.ref t) (ptD p) → PtIn far p → Q (.ref t) H'

/-! ### more readings -/
section
variable {σ : L2.St} {H H' H2 : Hp} {Q : VK} {v x y : V} {ta tb tc te : TE} {K : PySem.W.Frag} {p a b l : Addr} {xs zs : List V} {o : HO}
theorem raw_new (h : H p = none) (e : H a = some o) {u : HO} : upd H p u a = some o := Fl.Same.new h a o e
theorem raw_same (h : Same H H') (e : H a = some o) : H' a = some o := h a o e
theorem none_upd {u : HO} (h : H p = none) (n : p ≠ a) : upd H a u p = none := by rw [upd_ne n]; exact h
theorem Dq.newH {S : List Addr} {d : PyData} {u : HO} (e : H p = none) (h : Dq S H v d) : Dq S (upd H p u) v d := h.same (Fl.Same.new e)
theorem DqA.newH {S : List Addr} {vs : List V} {ds : List PyData} {u : HO} (e : H p = none) (h : DqA S H vs ds) : DqA S (upd H p u) vs ds := h.same (Fl.Same.new e)
theorem Al.newH {S : List Addr} {u : HO} (e : H p = none) (h : Al S H) : Al S (upd H p u) := h.same (Fl.Same.new e)
theorem g_sl {r : V → Option Int → Option Int → Hp → VK → Prop} {tl th : TO} (h : te σ H fun x H1 => tl σ H1 fun l H2 => th σ H2 fun u H3 => r x l u H3 Q) : L2.tSl r te tl th σ H Q := h
theorem g_part {QO : Option Int → Hp → Prop} (h : te σ H fun x H1 => ∃ i, x = .int i ∧ QO (some i) H1) : tPart te σ H QO := h
theorem g_nop {QO : Option Int → Hp → Prop} (h : QO none H) : tNoPart σ H QO := h
theorem g_ei {i : Int} {R : Int → Prop} (q : R i) : ∃ j, V.int i = .int j ∧ R j := ⟨i, rfl, q⟩
theorem g_slL {lo hi : Option Int} (h : SqL K H a xs) (q : ∀ p, H p = none → Q (.ref p) (upd H p (.lst (cutV xs lo hi)))) : rSlL K (.ref a) lo hi H Q := ⟨a, xs, rfl, h, q⟩
theorem g_slT {lo hi : Option Int} (h : SqT K H a xs) (n : ¬ (HT.sIx xs.length 0 lo = 0 ∧ HT.sIx xs.length xs.length hi = xs.length)) (q : ∀ p, H p = none → Q (.ref p) (upd H p (.tup (cutV xs lo hi)))) : rSlT K (.ref a) lo hi H Q := ⟨a, xs, rfl, h, n, q⟩
theorem cut_from (k : Nat) : cutV xs (some (k : Int)) none = xs.drop k := by
  show (xs.drop (HT.sIx xs.length 0 (some (k : Int)))).take (HT.sIx xs.length xs.length none - HT.sIx xs.length 0 (some (k : Int))) = _
  rw [HT.sIx_nat, HT.sIx_none]
  rcases Nat.le_total k xs.length with h | h
  · rw [Nat.min_eq_left h, List.take_of_length_le (by rw [List.length_drop]; omega)]
  · rw [Nat.min_eq_right h, Nat.sub_self, List.take_zero, List.drop_of_length_le h]
theorem cut_to (k : Nat) : cutV xs none (some (k : Int)) = xs.take k := by
  show (xs.drop (HT.sIx xs.length 0 none)).take (HT.sIx xs.length xs.length (some (k : Int)) - HT.sIx xs.length 0 none) = _
  rw [HT.sIx_nat, HT.sIx_none, List.drop_zero, Nat.sub_zero]
  rcases Nat.le_total k xs.length with h | h
  · rw [Nat.min_eq_left h]
  · rw [Nat.min_eq_right h, List.take_of_length_le (Nat.le_refl _), List.take_of_length_le h]
theorem cut_last : cutV xs none (some (-1)) = xs.dropLast := by
  show (xs.drop (HT.sIx xs.length 0 none)).take (HT.sIx xs.length xs.length (some (-1)) - HT.sIx xs.length 0 none) = _
  rw [HT.sIx_none, List.drop_zero, Nat.sub_zero, List.dropLast_eq_take]
  congr 1
  show (if (-1 : Int) < 0 then ((-1 : Int) + (xs.length : Int)).toNat else min (-1 : Int).toNat xs.length) = _
  rw [if_pos (by decide)]
  omega
theorem cut_fromLast : cutV xs (some (-1)) none = xs.drop (xs.length - 1) := by
  show (xs.drop (HT.sIx xs.length 0 (some (-1)))).take (HT.sIx xs.length xs.length none - HT.sIx xs.length 0 (some (-1))) = _
  have e : HT.sIx xs.length 0 (some (-1)) = xs.length - 1 := by
    show (if (-1 : Int) < 0 then ((-1 : Int) + (xs.length : Int)).toNat else min (-1 : Int).toNat xs.length) = _
    rw [if_pos (by decide)]
    omega
  rw [e, HT.sIx_none, List.take_of_length_le (by rw [List.length_drop]; omega)]
theorem g_cat (h1 : H l = some (.lst xs)) (h2 : H b = some (.lst zs)) (hz : xs.length + zs.length ≤ 2000) (q : ∀ p, H p = none → Q (.ref p) (upd H p (.lst (xs ++ zs)))) : rCat (.ref l) (.ref b) H Q :=
  ⟨l, b, xs, zs, rfl, rfl, h1, h2, Nat.le_trans hz (by decide), q⟩
end
/-! promises about outlines -/
def beg (c : List α) (k : Nat) : List α := c.drop k ++ c.take k
def fBeg (ds : List PyData) (d : PyData) : Prop := ∃ (c : List PyData) (k : Nat), ds = [.list c, .int (k : Int)] ∧ c.length ≤ 900 ∧ d = .list (beg c k)

section
variable {d s D : Addr} {ns : List Int} {H H' H1 H2 : Hp} {o : HO} {S : List Addr} {a : Addr} {v : V} {e : PyData}
theorem raw_on (h : On d H H') (n : a ≠ d) (e : H a = some o) : H' a = some o := by rw [h a n]; exact e
theorem raw_frd (h : Fr [d] H H') (n : a ≠ d) (e : H a = some o) : H' a = some o := h a o (by simpa using n) e
theorem Dq.frd (h : Fr [d] H H') (m : d ∈ S) (k : Dq S H v e) : Dq S H' v e := k.fr (h.mono fun a q => by
  rw [show a = d by simpa using q]
  exact m)
theorem Al.frd (h : Fr [d] H H') (k : Dk d s ns H') (q : Al S H) : Al S H' := q.fr h (.cons k.hd .nil)
theorem spread_at {v far : Int} (h0 : 0 ≤ v) (h1 : v < 3) (hf : 130 ≤ far) : ∃ sp : Int, atI [V.int 9, V.int 130, V.int far] v = some (.int sp) ∧ 9 ≤ sp ∧ sp ≤ far := by
  rcases (by omega : v = 0 ∨ v = 1 ∨ v = 2) with rfl | rfl | rfl
  · exact ⟨9, rfl, by omega, by omega⟩
  · exact ⟨130, rfl, by omega, by omega⟩
  · exact ⟨far, rfl, by omega, by omega⟩
theorem pt_app {far : Int} {Q : VK} {E : XK} (S : List Addr) (h1 : d ∈ S) (h2 : Al S H) (h3 : Dk d s ns H) (h4 : 130 ≤ far) (h5 : far ≤ 10 ^ 6) (q : ∀ t H' p, Fr [d] H H' → Dk d s ns H' → Dq S H' (.ref t) (ptD p) → PtIn far p → Q (.ref t) H') : spPt [.ref d, .int far] H Q E :=
  ⟨S, d, s, ns, far, rfl, h1, h2, h3, h4, h5, q⟩
/-- the list of points D at turn i -/
structure PtsAt (S : List Addr) (H1 : Hp) (d s : Addr) (ns : List Int) (far : Int) (D : Addr) (i : Nat) (H : Hp) : Prop where
  ex : ∃ (acc : List V) (c : List Pt), H D = some (.lst acc) ∧ DqA (D :: S) H acc (c.map ptD) ∧ c.length = i ∧ ∀ p, p ∈ c → PtIn far p
  fr : Fr [D, d] H1 H
  dk : Dk d s ns H
/-- [point for j in range(n)], points drawn from the deck at d -/
theorem lcDk {n : Nat} {lo far : Int} {g : TG} {te : TE} {vs : List Nat} {σ : L2.St} {Q : VK} (hS : Al S H1) (hd : d ∈ S) (hk : Dk d s ns H1) (hz : n < 1000)
    (step : ∀ (D : Addr) (i : Nat) (H : Hp), Al (D :: S) H → Dk d s ns H →
      ∀ (R : V → Hp → Prop), (∀ t H' p, Fr [d] H H' → Dk d s ns H' → Dq (D :: S) H' (.ref t) (ptD p) → PtIn far p → R (.ref t) H') →
      g (.int (lo + i)) (wipe σ vs) H fun σ2 H2 => wipe σ2 vs = wipe σ vs ∧ te σ2 H2 R)
    (q : ∀ (D : Addr) (H : Hp) (c : List Pt), Fr [d] H1 H → Dk d s ns H → Dq S H (.ref D) (ctD c) → c.length = n → (∀ p, p ∈ c → PtIn far p) → Q (.ref D) H)
    (gm : ∀ x σ' H' (Q1 Q2 : L2.St → Hp → Prop), (∀ s h, Q1 s h → Q2 s h) → g x σ' H' Q1 → g x σ' H' Q2) :
    lcK (Itr lo n) g tYes te vs σ H1 Q := by
  unfold lcK
  intro D hD
  have hnd : D ≠ d := hk.ned hD
  have hns : D ≠ s := hk.nes hD
  refine lc_range (PtsAt S H1 d s ns far D) ⟨⟨[], [], upd_same, .nil, rfl, fun _ m => nomatch m⟩, Fr.same (Fl.Same.new hD), hk.put hnd hns⟩ ?_ ?_
  · intro i H hlt h
    obtain ⟨⟨acc, c, hacc, hA, hl, hp⟩, hf, hk'⟩ := h
    have hAl : Al (D :: S) H := .cons (by rw [hacc]; simp) (hS.fr hf fun b m => by
      rcases List.mem_cons.mp m with rfl | m
      · rw [hacc]; simp
      · rw [show b = d by simpa using m]
        exact hk'.hd)
    refine gm _ _ _ _ _ (fun σ2 H2 hq => ⟨hq.1, ?_⟩) (step D i H hAl hk' (fun y H4 => ∃ acc, H4 D = some (.lst acc) ∧ acc.length < sizeLine ∧ PtsAt S H1 d s ns far D (i + 1) (upd H4 D (.lst (acc ++ [y])))) ?_)
    · exact hq.2
    · intro t H' p f k dq hp'
      have f' : Fr (D :: S) H H' := f.mono fun b m => by
        rw [show b = d by simpa using m]
        exact List.mem_cons_of_mem _ hd
      refine ⟨acc, f D _ (by simpa using hnd) hacc, ?_, ⟨acc ++ [.ref t], c ++ [p], upd_same, ?_, ?_, ?_⟩, ?_, ?_⟩
      · have := hA.len
        rw [List.length_map] at this
        have : (1000 : Nat) ≤ sizeLine := by decide
        omega
      · rw [List.map_append]
        exact ((hA.fr f').app (.one dq)).fr (Fr.upd (by simp))
      · rw [List.length_append, hl]
        rfl
      · intro p2 m
        rcases List.mem_append.mp m with m | m
        · exact hp p2 m
        · rw [show p2 = p by simpa using m]
          exact hp'
      · exact (hf.trans (f.mono fun b m => by simpa using Or.inr (show b = d by simpa using m))).trans (Fr.upd (by simp))
      · exact k.put hnd hns
  · intro H h
    obtain ⟨⟨acc, c, hacc, hA, hl, hp⟩, hf, hk'⟩ := h
    refine q D H c (fun b o n e => hf b o (fun m => ?_) e) hk' (.lst (hS.ni hD) hacc hA.tail) hl hp
    rcases List.mem_cons.mp m with rfl | m
    · rw [hD] at e; cases e
    · exact n m
/-- an outline that was drawn -/
structure OuIn (least : Nat) (far : Int) (o : List (List Pt)) : Prop where
  len : o.length ≤ 3
  cs : ∀ c, c ∈ o → least ≤ c.length ∧ c.length ≤ least + 5 ∧ ∀ p, p ∈ c → PtIn far p
end
def spOu : Sp := fun vs H Q _ => ∃ (d s : Addr) (ns : List Int) (least : Nat) (far : Int), vs = [.ref d, .int (least : Int), .int far] ∧ Dk d s ns H ∧ least ≤ 2 ∧ 130 ≤ far ∧ far ≤ 10 ^ 6 ∧
  ∀ t H' o, Fr [d] H H' → Dk d s ns H' → Dq [d] H' (.ref t) (ouD o) → OuIn least far o → Q (.ref t) H'
theorem g_sz {n : Nat} {A : Prop} (hn : n ≤ 1000) (h : A) : n ≤ sizeLine ∧ A := ⟨Nat.le_trans hn (by decide), h⟩
section
variable {σ : L2.St} {H : Hp} {te : TE} {D : Ends} {g : TG} {tb : TS}
/-- for _ in range(n): the number first, then the turns (te keeps its continuation: what it gives is put into te's own reading) -/
theorem g_forR_ (Pv : Nat → L2.St → Hp → Prop)
    (h : te σ H fun x H1 => ∃ n : Int, x = .int n ∧ -(2 ^ 62) ≤ n ∧ n < 2 ^ 62 ∧ Pv 0 σ H1 ∧ (∀ (i : Nat) σ' H', (i : Int) < n → Pv i σ' H' → g (.int (i : Int)) σ' H' fun σ2 H2 => tb { D with nx := Pv (i + 1), ct := Pv (i + 1), bk := D.nx } σ2 H2) ∧ ∀ σ' H', Pv n.toNat σ' H' → D.nx σ' H')
    (mono : ∀ Q Q' : VK, (∀ x H1, Q x H1 → Q' x H1) → te σ H Q → te σ H Q') : tFor (iRng1 (tCons te tNil)) g tb D σ H := by
  refine mono _ _ (fun x H1 q => ?_) h
  obtain ⟨n, rfl, h1, h2, p, hs, hd⟩ := q
  show ∃ j : Int, [V.int n] = [V.int j] ∧ _
  refine ⟨n, rfl, h1, h2, for_range Pv p (fun i σ' H' hi p' => ?_) hd⟩
  have e0 : (0 : Int) + (i : Int) = (i : Int) := Int.zero_add _
  rw [e0]
  exact hs i σ' H' (by omega) p'
end
section
variable {S : List Addr} {d s p : Addr} {ns : List Int} {H H' H2 : Hp} {v : V} {e : PyData} {u o : HO} {vs : List V} {es : List PyData}
theorem Dk.newH (h : H p = none) (k : Dk d s ns H) : Dk d s ns (upd H p u) := k.same (Fl.Same.new h)
theorem Dk.sm (h : Same H H') (k : Dk d s ns H) : Dk d s ns H' := k.same h
theorem Dq.sm (h : Same H H') (k : Dq S H v e) : Dq S H' v e := k.same h
theorem DqA.sm (h : Same H H') (k : DqA S H vs es) : DqA S H' vs es := k.same h
theorem Al.sm (h : Same H H') (k : Al S H) : Al S H' := k.same h
theorem Dq.ond (h : On d H H') (m : d ∈ S) (k : Dq S H v e) : Dq S H' v e := Dq.frd h.fr m k
theorem Al.ond (h : On d H H') (k : Dk d s ns H') (q : Al S H) : Al S H' := Al.frd h.fr k q
theorem Same.newT (h : H2 p = none) (k : Same H H2) : Same H (upd H2 p u) := L2.Same.trans k (Fl.Same.new h)
theorem Same.sm (h : Same H2 H') (k : Same H H2) : Same H H' := L2.Same.trans k h
theorem Fr.newT (h : H2 p = none) (k : Fr S H H2) : Fr S H (L2.upd H2 p u) := k.trans (Fr.new h)
theorem Fr.ond (h : On d H2 H') (k : Fr [d] H H2) : Fr [d] H H' := k.trans h.fr
theorem Fr.smT (h : Same H2 H') (k : Fr S H H2) : Fr S H H' := k.trans (Fr.same h)
theorem Fr.frT (h : Fr S H2 H') (k : Fr S H H2) : Fr S H H' := k.trans h
end
theorem Dk.ned2 {d s D : Addr} {ns : List Int} {H : Hp} (hD : H D = none) (h : Dk d s ns H) : D ≠ d := h.ned hD
theorem g_name {i : Nat} {v : V} {σ : L2.St} {H : Hp} {Q : L2.St → Hp → Prop} (q : Q (σ.set i (some v)) H) : gName i v σ H Q := q
theorem g_bm {K : PySem.W.Frag} {T : String} {r : V → List V → Hp → VK → Prop} {to : TE} {t : TA} {σ : L2.St} {H : Hp} {Q : VK} (h : to σ H fun x H1 => tyV K T x H1 ∧ t σ H1 fun xs H2 => r x xs H2 Q) : tBM K T r to t σ H Q := h
theorem g_app {l : Addr} {xs : List V} {y : V} {H : Hp} {Q : VK} (h : H l = some (.lst xs)) (hz : xs.length < 2000) (q : Q .non (upd H l (.lst (xs ++ [y])))) : rAppend (.ref l) [y] H Q := ⟨l, xs, y, rfl, rfl, h, Nat.lt_of_lt_of_le hz (by decide), q⟩
theorem g_ext {l b : Addr} {xs zs : List V} {H : Hp} {Q : VK} (h : H l = some (.lst xs)) (h2 : H b = some (.lst zs)) (hz : xs.length + zs.length ≤ 2000) (q : Q .non (upd H l (.lst (xs ++ zs)))) : rExtend (.ref l) [.ref b] H Q := ⟨l, b, xs, zs, rfl, rfl, h, h2, Nat.le_trans hz (by decide), q⟩
section
variable {K : PySem.W.Frag} {σ : L2.St} {H H1 : Hp} {Q : VK} {g : TG} {tt : TT} {te tx ty : TE} {tb : TS} {vs : List Nat} {D : Ends} {wi : TI} {R : It → Hp → Prop} {a b : Addr} {xs ys : List V}
theorem g_tyL {A : Prop} (h : SqL K H a xs) (q : A) : tyV K "list" (.ref a) H ∧ A := ⟨.inl ⟨rfl, _, h⟩, q⟩
theorem g_lc (h : wi σ H fun J H1 => lcK J g tt te vs σ H1 Q) : tLc wi g tt te vs σ H Q := h
theorem g_for (h : wi σ H fun J H1 => forK J g tb D σ H1) : tFor wi g tb D σ H := h
theorem g_rng1 (h : te σ H fun x H1 => ∃ j : Int, [x] = [V.int j] ∧ -(2 ^ 62) ≤ j ∧ j < 2 ^ 62 ∧ R (Itr 0 j.toNat) H1) : iRng1 (tCons te tNil) σ H R := h
theorem g_rng2 (h : tx σ H fun x H1 => ty σ H1 fun y H2 => ∃ i j : Int, [x, y] = [V.int i, V.int j] ∧ (-(2 ^ 62) ≤ i ∧ i < 2 ^ 62 ∧ -(2 ^ 62) ≤ j ∧ j < 2 ^ 62) ∧ R (Itr i (j - i).toNat) H2) : iRng2 (tCons tx (tCons ty tNil)) σ H R := h
theorem g_e1 {n : Int} {Z : Int → Prop} (h1 : -(2 ^ 62) ≤ n) (h2 : n < 2 ^ 62) (q : Z n) : ∃ j : Int, [V.int n] = [V.int j] ∧ -(2 ^ 62) ≤ j ∧ j < 2 ^ 62 ∧ Z j := ⟨n, rfl, h1, h2, q⟩
theorem g_e2 {i j : Int} {Z : Int → Int → Prop} (h : -(2 ^ 62) ≤ i ∧ i < 2 ^ 62 ∧ -(2 ^ 62) ≤ j ∧ j < 2 ^ 62) (q : Z i j) : ∃ k l : Int, [V.int i, V.int j] = [V.int k, V.int l] ∧ (-(2 ^ 62) ≤ k ∧ k < 2 ^ 62 ∧ -(2 ^ 62) ≤ l ∧ l < 2 ^ 62) ∧ Z k l := ⟨i, j, rfl, h, q⟩
theorem g_il (h : te σ H fun x H1 => ∃ a, x = .ref a ∧ (∃ xs, SqL K H1 a xs) ∧ R (Itl K a) H1) : iList K te σ H R := h
theorem g_el {Z : Addr → Prop} (h : SqL K H a xs) (q : Z a) : ∃ c, V.ref a = .ref c ∧ (∃ xs, SqL K H c xs) ∧ Z c := ⟨a, rfl, ⟨xs, h⟩, q⟩
theorem g_zip (h : tx σ H fun x H1 => ty σ H1 fun y H2 => ∃ a b xs ys, [x, y] = [V.ref a, V.ref b] ∧ SqL K H2 a xs ∧ SqL K H2 b ys ∧ R (Itz K a b) H2) : iZip K (tCons tx (tCons ty tNil)) σ H R := h
theorem g_ez {Z : Addr → Addr → Prop} (h1 : SqL K H a xs) (h2 : SqL K H b ys) (q : Z a b) : ∃ c d zs ws, [V.ref a, V.ref b] = [V.ref c, V.ref d] ∧ SqL K H c zs ∧ SqL K H d ws ∧ Z c d := ⟨a, b, xs, ys, rfl, h1, h2, q⟩
theorem forK_r {lo : Int} {n : Nat} (Pv : Nat → L2.St → Hp → Prop) (h0 : Pv 0 σ H)
    (hs : ∀ i σ H, i < n → Pv i σ H → g (.int (lo + i)) σ H fun σ2 H2 => tb { D with nx := Pv (i + 1), ct := Pv (i + 1), bk := D.nx } σ2 H2) (hd : ∀ σ H, Pv n σ H → D.nx σ H) : forK (Itr lo n) g tb D σ H := for_range Pv h0 hs hd
theorem forK_l (Pv : Nat → L2.St → Hp → Prop) (h0 : Pv 0 σ H) (hl : ∀ i σ H, i ≤ xs.length → Pv i σ H → SqL K H a xs)
    (hs : ∀ i x σ H, xs[i]? = some x → Pv i σ H → g x σ H fun σ2 H2 => tb { D with nx := Pv (i + 1), ct := Pv (i + 1), bk := D.nx } σ2 H2) (hd : ∀ σ H, Pv xs.length σ H → D.nx σ H) : forK (Itl K a) g tb D σ H := for_list Pv h0 hl hs hd
theorem forK_z (hl : xs.length = ys.length) (Pv : Nat → L2.St → Hp → Prop) (h0 : Pv 0 σ H) (hq : ∀ i σ H, Pv i σ H → SqL K H a xs ∧ SqL K H b ys)
    (hs : ∀ (i : Nat) (x y : V) (T : Addr) (σ : L2.St) (H : Hp), xs[i]? = some x → ys[i]? = some y → Pv i σ H → H T = none → g (.ref T) σ (upd H T (.tup [x, y])) fun σ2 H2 => tb { D with nx := Pv (i + 1), ct := Pv (i + 1), bk := D.nx } σ2 H2)
    (hd : ∀ σ H, Pv xs.length σ H → D.nx σ H) : forK (Itz K a b) g tb D σ H := RZ.for_zipL hl Pv h0 hq hs hd
end
section
variable {K : PySem.W.Frag} {H : Hp} {Q : VK} {a : Addr} {xs : List V} {x y z : V}
theorem g_slF {k : Nat} (h : SqL K H a xs) (q : ∀ p, H p = none → Q (.ref p) (upd H p (.lst (xs.drop k)))) : rSlL K (.ref a) (some (k : Int)) none H Q := g_slL h (by rw [cut_from]; exact q)
theorem g_slF1 (h : SqL K H a xs) (q : ∀ p, H p = none → Q (.ref p) (upd H p (.lst (xs.drop 1)))) : rSlL K (.ref a) (some 1) none H Q := g_slF (k := 1) h q
theorem g_slTo {k : Nat} (h : SqL K H a xs) (q : ∀ p, H p = none → Q (.ref p) (upd H p (.lst (xs.take k)))) : rSlL K (.ref a) none (some (k : Int)) H Q := g_slL h (by rw [cut_to]; exact q)
theorem g_slT1 (h : SqL K H a xs) (q : ∀ p, H p = none → Q (.ref p) (upd H p (.lst (xs.take 1)))) : rSlL K (.ref a) none (some 1) H Q := g_slTo (k := 1) h q
theorem g_slB (h : SqL K H a xs) (q : ∀ p, H p = none → Q (.ref p) (upd H p (.lst xs.dropLast))) : rSlL K (.ref a) none (some (-1)) H Q := g_slL h (by rw [cut_last]; exact q)
theorem g_slE (h : SqL K H a xs) (q : ∀ p, H p = none → Q (.ref p) (upd H p (.lst (xs.drop (xs.length - 1))))) : rSlL K (.ref a) (some (-1)) none H Q := g_slL h (by rw [cut_fromLast]; exact q)
theorem g_sl2 (h : SqT K H a [x, y, z]) (q : ∀ p, H p = none → Q (.ref p) (upd H p (.tup [x, y]))) : rSlT K (.ref a) none (some 2) H Q := g_slT h (by show ¬ (0 = 0 ∧ 2 = 3); decide) q
end
/-- a global number -/
theorem pe_gv {X : Cx} {x : Str} {pos : Pos} {v : V} (g : Gl X x) (h : ∃ u, X.mg x = some u ∧ RelV v u)
    (n : (x == ("__debug__" : Str)) = false := by decide) : PE X (.Name x pos) (tC v) := pe_glob g h.choose_spec.1 h.choose_spec.2 n
/-! the rules whose readings name the written part, for blocks within defs -/
section
variable {X : Cx} {K : PySem.W.Frag}
theorem ixT (e : X.K = K) : IxR X (rIxT K) := by subst e; exact ix_tup
theorem ixL (e : X.K = K) : IxR X (rIxL K) := by subst e; exact ix_list
theorem slL' (e : X.K = K) : SlR X (rSlL K) := by subst e; exact sl_list
theorem slT' (e : X.K = K) : SlR X (rSlT K) := by subst e; exact sl_tup
theorem clLen (e : X.K = K) : CallR X (.builtin "len") (Fl.rLen K) := by subst e; exact call_len'
theorem clList (e : X.K = K) : CallR X (.type "list") (Fl.rList K) := by subst e; exact call_list'
theorem clIsi (e : X.K = K) : CallR X (.builtin "isinstance") (rIsi K) := by subst e; exact call_isi
theorem opEqD (e : X.K = K) (hu : X.A.units + 64 < cLine) : OpR X (compareOp .Eq) (rEqD K) := by subst e; exact op_eqD hu
theorem opNeD (e : X.K = K) (hu : X.A.units + 64 < cLine) : OpR X (compareOp .NotEq) (rNeD K) := by subst e; exact op_neD hu
theorem opIn (e : X.K = K) : OpR X (compareOp .In) (rIn K false) := by subst e; exact op_in_seq
theorem opNotIn (e : X.K = K) : OpR X (compareOp .NotIn) (rIn K true) := by subst e; exact op_notIn_seq
def tTru (K : PySem.W.Frag) (ta : TE) : TT := fun σ H Q => ta σ H fun x H' => ∃ k, TruV K x H' k ∧ Q k H'
theorem ptTru {a : Expr} {ta : TE} (e : X.K = K) (ha : PE X a ta) (he : ∀ whole, isTrue a X.env whole = (do let v ← whole; standAt a.pos; holding [v] (truthy v))) : PT X a (tTru K ta) := by subst e; exact pt_truth ha he
theorem piL {l tg : Expr} {tl : TE} (e : X.K = K) (h : PE X l tl) : PI X tg l (iList K tl) := by subst e; exact pi_list h
theorem piT {l tg : Expr} {tl : TE} (e : X.K = K) (h : PE X l tl) : PI X tg l (iTup K tl) := by subst e; exact pi_tup h
theorem pgT {es : List Expr} {j : Nat} {t : TGs} {n : Nat} {pos : Pos} (e : X.K = K) (hc : X.calm = true) (h : PGs X es t)
    (hn : (assignEach es X.env).length = n := by rfl)
    (hst : (assignEach es X.env).findIdx? (·.1) = none := by rfl) : PG X (.Tuple es j pos) (gTup K n t) := by subst e; exact pg_tup hc h hn hst
theorem g_gtup {n : Nat} {t : TGs} {a : Addr} {xs : List V} {σ : L2.St} {H : Hp} {Q : L2.St → Hp → Prop} (h : SqT K H a xs) (e : xs.length = n) (q : t xs σ H Q) : gTup K n t (.ref a) σ H Q := ⟨a, xs, rfl, h, e, q⟩
theorem g_gcons {t : TG} {u : TGs} {v : V} {r : List V} {σ : L2.St} {H : Hp} {Q : L2.St → Hp → Prop} (q : t v σ H fun σ' H' => u r σ' H' Q) : gCons t u (v :: r) σ H Q := ⟨v, r, rfl, q⟩
theorem g_gnil {σ : L2.St} {H : Hp} {Q : L2.St → Hp → Prop} (q : Q σ H) : gNil [] σ H Q := ⟨rfl, q⟩
theorem g_truL {a : Addr} {xs : List V} {te : TE} {σ : L2.St} {H : Hp} {Q : Bool → Hp → Prop} (h : te σ H fun x H' => ∃ k, TruV K x H' k ∧ Q k H') : tTru K te σ H Q := h
end
theorem g_yes {te : TE} {R : VK} {N : Hp → Prop} {σ : L2.St} {H : Hp} (h : te σ H R) : tYes σ H fun b H3 => if b = true then te σ H3 R else N H3 := h
theorem fm_all {rs : List PyData} {n : Nat} (h : rs.length ≤ n) : (List.range n).filterMap (fun i => rs[i]?) = rs := by rw [fm_take, List.take_of_length_le h]
theorem DqA.getM {α : Type} {f : α → PyData} {S : List Addr} {H : Hp} {vs : List V} {c : List α} {i : Nat} {x : V} (h : DqA S H vs (c.map f)) (e : vs[i]? = some x) : ∃ p, c[i]? = some p ∧ Dq S H x (f p) := by
  obtain ⟨d, h1, h2⟩ := h.get e
  rw [List.getElem?_map] at h1
  cases hc : c[i]? with
  | none => rw [hc] at h1; cases h1
  | some p =>
    rw [hc] at h1
    cases h1
    exact ⟨p, rfl, h2⟩
theorem take_zip {α β : Type} {l : List α} {m : List β} {i : Nat} {x : α} {y : β} (h1 : l[i]? = some x) (h2 : m[i]? = some y) : (l.zip m).take (i + 1) = (l.zip m).take i ++ [(x, y)] := by
  rw [List.take_succ, (List.getElem?_zip_eq_some (z := (x, y))).mpr ⟨h1, h2⟩]
  rfl
theorem g_tru {K : PySem.W.Frag} {te : TE} {σ : L2.St} {H : Hp} {Q : Bool → Hp → Prop} (h : te σ H fun x H' => ∃ k, TruV K x H' k ∧ Q k H') : tTru K te σ H Q := h
theorem g_tru0 {K : PySem.W.Frag} {a : Addr} {H : Hp} {Z : Bool → Prop} (h : SqL K H a []) (q : Z false) : ∃ k, TruV K (.ref a) H k ∧ Z k := ⟨_, .inl ⟨_, h, rfl⟩, q⟩
theorem g_tru1 {K : PySem.W.Frag} {a : Addr} {x : V} {xs : List V} {H : Hp} {Z : Bool → Prop} (h : SqL K H a (x :: xs)) (q : Z true) : ∃ k, TruV K (.ref a) H k ∧ Z k := ⟨_, .inl ⟨_, h, rfl⟩, q⟩
theorem at0 {x : V} {xs : List V} : atI (x :: xs) 0 = some x := atI_nat (j := 0) rfl
theorem DqA.dl {S : List Addr} {H : Hp} {vs : List V} {ds : List PyData} (h : DqA S H vs ds) : DqA S H vs.dropLast ds.dropLast := by
  rw [List.dropLast_eq_take, List.dropLast_eq_take, h.len]
  exact h.take _
theorem dk_app {K : PySem.W.Frag} {a : Addr} {ns : List Int} {H : Hp} {Q : VK} {E : XK} (h : SqL K H a (ns.map V.int)) (k : ∀ d s H', Same H H' → Dk d s ns H' → Q (.ref d) H') : spDk K [.ref a] H Q E := ⟨a, ns, rfl, h, k⟩
def spLaw (K : PySem.W.Frag) : Sp := fun vs H Q _ => ∃ (a : Addr) (ns : List Int), vs = [.ref a] ∧ SqL K H a (ns.map V.int) ∧ ns.length ≤ 63 ∧ ∀ H', Q (.bl true) H'
theorem g_nn {A : Prop} (h : A) : V.non = V.non ∧ A := ⟨rfl, h⟩
end Fl

set_option Elab.async false
set_option linter.all false
set_option maxRecDepth 100000
set_option maxHeartbeats 4000000
/-! lines of contours: the mathematics -/
namespace Fl
open PySem PySem.Spec PyProof.Rows L2

abbrev Pr := Int × Int
def prD (p : Pr) : PyData := .tuple [.int p.1, .int p.2]
def lnD (l : List Pr) : PyData := .list (l.map prD)
def lsD (ls : List (List Pr)) : PyData := .list (ls.map lnD)
def pr (p : Pt) : Pr := (p.1, p.2.1)
def mid (p q : Pt) : Pt := ((p.1 + q.1) / 2, (p.2.1 + q.2.1) / 2, true)
def w1 (p q : Pt) : List Pt := if p.2.2 = true then [p] else if q.2.2 = true then [p] else [p, mid p q]
/-- a path and the point behind it, with its middle points -/
def wp : List Pt → Pt → List Pt
  | [], _ => []
  | [p], nx => w1 p nx
  | p :: q :: l, nx => w1 p q ++ wp (q :: l) nx
def wm : List Pt → List Pt
  | [] => []
  | p :: l => wp (p :: l) p
def cv (n a c b : Int) : Int := ((8 - n) * (8 - n) * a + 2 * n * (8 - n) * c + n * n * b + 32) / 64
def cp (a c b : Pt) (n : Nat) : Pr := (cv (n + 1) a.1 c.1 b.1, cv (n + 1) a.2.1 c.2.1 b.2.1)
def cvs (a c b : Pt) : List Pr := (List.range 8).map (cp a c b)
def cv7 (a c b : Pt) : List Pr := (List.range 7).map (cp a c b)
theorem cv_end (a c b : Int) : cv 8 a c b = b := by
  show ((8 - 8) * (8 - 8) * a + 2 * 8 * (8 - 8) * c + 8 * 8 * b + 32) / 64 = b
  omega
theorem cvs_eq (a c b : Pt) : cvs a c b = cv7 a c b ++ [pr b] := by
  have e : cp a c b 7 = pr b := Prod.ext (cv_end _ _ _) (cv_end _ _ _)
  rw [← e]
  rfl
/-- what the walk along a closed ring gives at a point -/
def s1 (a p b : Pt) : List Pr := if p.2.2 = true then (if b.2.2 = true then [pr b] else []) else cvs a p b
def e1 (a p b : Pt) : List Pr := if p.2.2 = true then [pr p] else cv7 a p b
def sp' : Pt → List Pt → List Pr
  | pv, p :: q :: l => s1 pv p q ++ sp' p (q :: l)
  | _, _ => []
def ep : Pt → List Pt → Pt → List Pr
  | _, [], _ => []
  | pv, [p], nx => e1 pv p nx
  | pv, p :: q :: l, nx => e1 pv p q ++ ep p (q :: l) nx
/-- no two neighbours are off -/
def Na : List Pt → Prop
  | p :: q :: l => (p.2.2 = true ∨ q.2.2 = true) ∧ Na (q :: l)
  | _ => True
theorem tele (h : Pt) (hh : h.2.2 = true) : ∀ (l : List Pt) (pv p : Pt), Na (p :: l ++ [h]) → (if p.2.2 = true then [pr p] else []) ++ sp' pv (p :: l ++ [h]) = ep pv (p :: l) h ++ [pr h]
  | [], pv, p, _ => by
    show (if p.2.2 = true then [pr p] else []) ++ (s1 pv p h ++ []) = e1 pv p h ++ [pr h]
    unfold s1 e1
    by_cases hp : p.2.2 = true
    · simp [hp, hh]
    · simp [hp, cvs_eq]
  | q :: l, pv, p, na => by
    have ih := tele h hh l p q na.2
    have hpq : p.2.2 = true ∨ q.2.2 = true := na.1
    show (if p.2.2 = true then [pr p] else []) ++ (s1 pv p q ++ sp' p (q :: l ++ [h])) = (e1 pv p q ++ ep p (q :: l) h) ++ [pr h]
    rw [List.append_assoc, ← ih]
    unfold s1 e1
    by_cases hp : p.2.2 = true
    · simp [hp]
    · have hq : q.2.2 = true := hpq.resolve_left hp
      simp [hp, hq, cvs_eq]

/-! by index -/
def p0 : Pt := (0, 0, false)
def st (pv : Pt) (cl : List Pt) (k : Nat) : List Pr := s1 (if k = 0 then pv else cl.getD (k - 1) p0) (cl.getD k p0) (cl.getD (k + 1) p0)
theorem st_sp : ∀ (l : List Pt) (pv p : Pt), (List.range l.length).flatMap (st pv (p :: l)) = sp' pv (p :: l)
  | [], _, _ => rfl
  | q :: l, pv, p => by
    have ih := st_sp l p q
    show (List.range (l.length + 1)).flatMap (st pv (p :: q :: l)) = s1 pv p q ++ sp' p (q :: l)
    rw [List.range_succ_eq_map, List.flatMap_cons, ← ih, List.flatMap_map]
    congr 1
    congr 1
    funext k
    cases k with
    | zero => rfl
    | succ k => rfl
def wz (c : List Pt) : List Pt := (c.zip (beg c 1)).flatMap fun z => w1 z.1 z.2
theorem wz_wp : ∀ (l : List Pt) (p nx : Pt), ((p :: l).zip (l ++ [nx])).flatMap (fun z => w1 z.1 z.2) = wp (p :: l) nx
  | [], _, _ => by simp [wp]
  | q :: l, p, nx => by
    have ih := wz_wp l q nx
    show w1 p q ++ ((q :: l).zip (l ++ [nx])).flatMap (fun z => w1 z.1 z.2) = w1 p q ++ wp (q :: l) nx
    rw [ih]
theorem wz_wm (c : List Pt) : wz c = wm c := by
  cases c with
  | nil => rfl
  | cons p l => exact wz_wp l p p
theorem w1_len (p q : Pt) : 1 ≤ (w1 p q).length ∧ (w1 p q).length ≤ 2 := by
  unfold w1
  split
  · simp
  · split <;> simp
theorem wp_len : ∀ (l : List Pt) (nx : Pt), l.length ≤ (wp l nx).length ∧ (wp l nx).length ≤ 2 * l.length
  | [], _ => ⟨Nat.le_refl _, Nat.le_refl _⟩
  | [p], nx => w1_len p nx
  | p :: q :: l, nx => by
    have ih := wp_len (q :: l) nx
    have := w1_len p q
    show _ ≤ (w1 p q ++ wp (q :: l) nx).length ∧ (w1 p q ++ wp (q :: l) nx).length ≤ _
    rw [List.length_append]
    simp only [List.length_cons] at *
    omega
theorem wm_len (c : List Pt) : c.length ≤ (wm c).length ∧ (wm c).length ≤ 2 * c.length := by
  cases c with
  | nil => exact ⟨Nat.le_refl _, Nat.le_refl _⟩
  | cons p l => exact wp_len _ _
theorem w1_head (p q : Pt) : ∃ t, w1 p q = p :: t := by
  unfold w1
  split
  · exact ⟨_, rfl⟩
  · split <;> exact ⟨_, rfl⟩
theorem wp_head (p : Pt) (l : List Pt) (nx : Pt) : ∃ t, wp (p :: l) nx = p :: t := by
  cases l with
  | nil => exact w1_head p nx
  | cons q l =>
    obtain ⟨t, e⟩ := w1_head p q
    refine ⟨t ++ wp (q :: l) nx, ?_⟩
    show w1 p q ++ _ = _
    rw [e]
    rfl
/-- in which box -/
def InB (P : Pt → Prop) : Prop := ∀ p q, P p → P q → P (mid p q)
theorem w1_in {P : Pt → Prop} (hP : InB P) {p q x : Pt} (hp : P p) (hq : P q) (m : x ∈ w1 p q) : P x := by
  unfold w1 at m
  split at m
  · rw [show x = p by simpa using m]; exact hp
  · split at m
    · rw [show x = p by simpa using m]; exact hp
    · rcases List.mem_cons.mp m with rfl | m
      · exact hp
      · rw [show x = mid p q by simpa using m]
        exact hP p q hp hq
theorem wp_in {P : Pt → Prop} (hP : InB P) : ∀ (l : List Pt) (nx : Pt), (∀ p, p ∈ l → P p) → P nx → ∀ x, x ∈ wp l nx → P x
  | [], _, _, _, _, m => nomatch m
  | [p], nx, h, hn, x, m => w1_in hP (h p (by simp)) hn m
  | p :: q :: l, nx, h, hn, x, m => by
    rcases List.mem_append.mp (show x ∈ w1 p q ++ wp (q :: l) nx from m) with m | m
    · exact w1_in hP (h p (by simp)) (h q (by simp)) m
    · exact wp_in hP (q :: l) nx (fun z mz => h z (List.mem_cons_of_mem _ mz)) hn x m
theorem wm_in {P : Pt → Prop} (hP : InB P) {c : List Pt} (h : ∀ p, p ∈ c → P p) : ∀ x, x ∈ wm c → P x := by
  cases c with
  | nil => intro x m; cases m
  | cons p l => exact wp_in hP _ _ h (h p (by simp))
theorem mem_beg {α : Type} {c : List α} {k : Nat} {x : α} : x ∈ beg c k ↔ x ∈ c := by
  unfold beg
  rw [List.mem_append]
  constructor
  · rintro (m | m)
    · exact List.mem_of_mem_drop m
    · exact List.mem_of_mem_take m
  · intro m
    rw [← List.take_append_drop k c] at m
    rcases List.mem_append.mp m with m | m
    · exact .inr m
    · exact .inl m
theorem beg_len {α : Type} (c : List α) (k : Nat) : (beg c k).length = c.length := by
  unfold beg
  rw [List.length_append, List.length_drop, List.length_take]
  omega
/-- the indexes of the points that are on -/
def ps (c : List Pt) : List Nat := (List.range c.length).filter fun i => (c.getD i p0).2.2
def ro (c : List Pt) : List Pt := match ps c with
  | [] => (wm c).drop ((wm c).length - 1) ++ (wm c).dropLast
  | k :: _ => wm (beg c k)
theorem inB_in (b : Int) : InB (PtIn b) := fun p q hp hq => by
  obtain ⟨h1, h2, h3, h4⟩ := hp
  obtain ⟨g1, g2, g3, g4⟩ := hq
  refine ⟨?_, ?_, ?_, ?_⟩
  · show -b ≤ (p.1 + q.1) / 2; omega
  · show (p.1 + q.1) / 2 ≤ b; omega
  · show -b ≤ (p.2.1 + q.2.1) / 2; omega
  · show (p.2.1 + q.2.1) / 2 ≤ b; omega
theorem ro_in {P : Pt → Prop} (hP : InB P) {c : List Pt} (h : ∀ p, p ∈ c → P p) : ∀ x, x ∈ ro c → P x := by
  intro x m
  unfold ro at m
  split at m
  · refine wm_in hP h x ?_
    rcases List.mem_append.mp m with m | m
    · exact List.mem_of_mem_drop m
    · exact List.dropLast_subset _ m
  · exact wm_in hP (fun p mp => h p (mem_beg.mp mp)) x m
theorem ro_len (c : List Pt) : (ro c).length ≤ 2 * c.length ∧ c.length ≤ (ro c).length := by
  unfold ro
  split
  · have := wm_len c
    rw [List.length_append, List.length_drop, List.length_dropLast]
    omega
  · rename_i k _ _
    have := wm_len (beg c k)
    rw [beg_len] at this
    omega
/-- the line of a contour -/
def lnOf (c : List Pt) : List Pr := match ro c with
  | [] => []
  | r :: l => (pr r :: (List.range (r :: l).length).flatMap (st p0 (r :: l ++ [r]))).dropLast
/-! promises -/
def fMid (ds : List PyData) (d : PyData) : Prop := ∃ p q : Pt, ds = [ptD p, ptD q] ∧ d = ptD (mid p q)
def spCv : Sp := fun vs H Q _ => ∃ n a c b : Int, vs = [.int n, .int a, .int c, .int b] ∧ 0 ≤ n ∧ n ≤ 8 ∧ a.natAbs ≤ 10 ^ 7 ∧ c.natAbs ≤ 10 ^ 7 ∧ b.natAbs ≤ 10 ^ 7 ∧ Q (.int (cv n a c b)) H
theorem cv_app {n a c b : Int} {H : Hp} {Q : VK} {E : XK} (h1 : 0 ≤ n) (h2 : n ≤ 8) (h3 : a.natAbs ≤ 10 ^ 7) (h4 : c.natAbs ≤ 10 ^ 7) (h5 : b.natAbs ≤ 10 ^ 7) (q : Q (.int (cv n a c b)) H) : spCv [.int n, .int a, .int c, .int b] H Q E := ⟨n, a, c, b, rfl, h1, h2, h3, h4, h5, q⟩
def fCur (ds : List PyData) (d : PyData) : Prop := ∃ a c b : Pt, ds = [ptD a, ptD c, ptD b] ∧ PtIn (10 ^ 6) a ∧ PtIn (10 ^ 6) c ∧ PtIn (10 ^ 6) b ∧ d = lnD (cvs a c b)
def fWm (ds : List PyData) (d : PyData) : Prop := ∃ c : List Pt, ds = [ctD c] ∧ c.length ≤ 100 ∧ d = ctD (wm c)
def fRo (ds : List PyData) (d : PyData) : Prop := ∃ c : List Pt, ds = [ctD c] ∧ c.length ≤ 100 ∧ d = ctD (ro c)
def fLo (ds : List PyData) (d : PyData) : Prop := ∃ c : List Pt, ds = [ctD c] ∧ c.length ≤ 100 ∧ (∀ p, p ∈ c → PtIn (10 ^ 6) p) ∧ d = lnD (lnOf c)
def fLs (ds : List PyData) (d : PyData) : Prop := ∃ o : List (List Pt), ds = [ouD o] ∧ o.length ≤ 100 ∧ (∀ c, c ∈ o → c.length ≤ 100 ∧ ∀ p, p ∈ c → PtIn (10 ^ 6) p) ∧ d = lsD (o.map lnOf)
theorem fm_filter {α β : Type} (p : α → Bool) (f : α → β) : ∀ l : List α, l.filterMap (fun i => if p i = true then some (f i) else none) = (l.filter p).map f
  | [] => rfl
  | x :: l => by
    rw [List.filterMap_cons, List.filter_cons, fm_filter p f l]
    by_cases h : p x = true
    · simp [h]
    · simp [h]
theorem ps_fm (c : List Pt) : (List.range c.length).filterMap (fun i => if (c.getD i p0).2.2 = true then some (PyData.int (i : Int)) else none) = (ps c).map fun i : Nat => PyData.int (i : Int) := fm_filter _ _ _
theorem ps_lt {c : List Pt} {k : Nat} (h : k ∈ ps c) : k < c.length := by
  unfold ps at h
  exact List.mem_range.mp (List.mem_filter.mp h).1
theorem ps_on {c : List Pt} {k : Nat} (h : k ∈ ps c) : (c.getD k p0).2.2 = true := (List.mem_filter.mp h).2
/-! a ring begins with a point that is on -/
theorem w1_last (p q : Pt) : p.2.2 = false → q.2.2 = false → (w1 p q).getLast? = some (mid p q) := fun h1 h2 => by
  unfold w1
  simp [h1, h2]
theorem wp_last_off : ∀ (l : List Pt) (p nx : Pt), (∀ x, x ∈ p :: l → x.2.2 = false) → nx.2.2 = false → ∃ z, (wp (p :: l) nx).getLast? = some z ∧ z.2.2 = true
  | [], p, nx, h, hn => ⟨mid p nx, w1_last p nx (h p (by simp)) hn, rfl⟩
  | q :: l, p, nx, h, hn => by
    obtain ⟨z, e, hz⟩ := wp_last_off l q nx (fun x m => h x (List.mem_cons_of_mem _ m)) hn
    refine ⟨z, ?_, hz⟩
    show (w1 p q ++ wp (q :: l) nx).getLast? = _
    rw [List.getLast?_append, e]
    rfl
theorem beg_head {α : Type} {c : List α} {k : Nat} {x : α} (h : c[k]? = some x) : ∃ t, beg c k = x :: t := by
  unfold beg
  have hk := (List.getElem?_eq_some_iff.mp h).1
  rw [List.drop_eq_getElem_cons hk, (List.getElem?_eq_some_iff.mp h).2]
  exact ⟨_, rfl⟩
theorem getD_of {c : List Pt} {k : Nat} {x : Pt} (h : c[k]? = some x) : c.getD k p0 = x := by
  rw [List.getD_eq_getElem?_getD, h]
  rfl
theorem ro_on {c : List Pt} {r : Pt} {l : List Pt} (h : ro c = r :: l) : r.2.2 = true := by
  unfold ro at h
  cases hps : ps c with
  | nil =>
    rw [hps] at h
    have h : (wm c).drop ((wm c).length - 1) ++ (wm c).dropLast = r :: l := h
    cases c with
    | nil => cases h
    | cons p t =>
      have off : ∀ x, x ∈ p :: t → x.2.2 = false := fun x m => by
        obtain ⟨i, hi⟩ := List.getElem?_of_mem m
        cases hx : x.2.2 with
        | false => rfl
        | true =>
          have : i ∈ ps (p :: t) := by
            refine List.mem_filter.mpr ⟨List.mem_range.mpr (List.getElem?_eq_some_iff.mp hi).1, ?_⟩
            rw [getD_of hi]
            exact hx
          rw [hps] at this
          cases this
      obtain ⟨z, e, hz⟩ := wp_last_off t p p off (off p (by simp))
      have e' : (wm (p :: t)).drop ((wm (p :: t)).length - 1) = [z] := by
        have e2 : (wm (p :: t)).getLast? = some z := e
        rw [List.getLast?_eq_getElem?] at e2
        have hlt := (List.getElem?_eq_some_iff.mp e2).1
        rw [List.drop_eq_getElem_cons hlt, (List.getElem?_eq_some_iff.mp e2).2, List.drop_of_length_le (by omega)]
      rw [e'] at h
      have : z = r := by
        have h : z :: (wm (p :: t)).dropLast = r :: l := h
        exact (List.cons.inj h).1
      rw [← this]
      exact hz
  | cons k t =>
    rw [hps] at h
    have h : wm (beg c k) = r :: l := h
    have hk : k ∈ ps c := by rw [hps]; simp
    have hkl : k < c.length := ps_lt hk
    have hx : c[k]? = some c[k] := List.getElem?_eq_getElem hkl
    have hon := ps_on hk
    rw [getD_of hx] at hon
    obtain ⟨u, hu⟩ := beg_head hx
    rw [hu] at h
    obtain ⟨v, hv⟩ := wp_head c[k] u c[k]
    have h : wp (c[k] :: u) c[k] = r :: l := h
    rw [hv] at h
    rw [← (List.cons.inj h).1]
    exact hon
end Fl

set_option Elab.async false
set_option linter.all false
set_option maxRecDepth 100000
set_option maxHeartbeats 4000000
/-! the line of a contour, in a closed form; it goes around with the contour -/
namespace Fl
open PySem PySem.Spec PyProof.Rows L2

def Rot {α : Type} (a b : List α) : Prop := ∃ u v, a = u ++ v ∧ b = v ++ u
theorem Rot.refl {α : Type} (a : List α) : Rot a a := ⟨a, [], by simp, by simp⟩
theorem Rot.symm {α : Type} {a b : List α} (h : Rot a b) : Rot b a := by
  obtain ⟨u, v, rfl, rfl⟩ := h
  exact ⟨v, u, rfl, rfl⟩
theorem Rot.trans {α : Type} {a b c : List α} (h : Rot a b) (k : Rot b c) : Rot a c := by
  obtain ⟨u, v, rfl, hb⟩ := h
  obtain ⟨u', v', rfl, rfl⟩ := k
  rcases List.append_eq_append_iff.mp hb with ⟨w, h1, h2⟩ | ⟨w, h1, h2⟩
  · -- v = u' ++ w, v' = w ++ u
    subst h1 h2
    exact ⟨u ++ u', w, by simp, by simp⟩
  · subst h1 h2
    exact ⟨w, v' ++ v, by simp, by simp⟩
theorem Rot.beg {α : Type} (a : List α) (k : Nat) : Rot a (Fl.beg a k) := ⟨a.take k, a.drop k, (List.take_append_drop k a).symm, rfl⟩
theorem Rot.len {α : Type} {a b : List α} (h : Rot a b) : a.length = b.length := by
  obtain ⟨u, v, rfl, rfl⟩ := h
  simp [Nat.add_comm]
/-- a turn by less than the whole length -/
theorem Rot.ex {α : Type} {a b : List α} (h : Rot a b) (n : a ≠ []) : ∃ k, k < a.length ∧ Fl.beg a k = b := by
  obtain ⟨u, v, rfl, rfl⟩ := h
  cases v with
  | nil =>
    refine ⟨0, ?_, ?_⟩
    · cases u with
      | nil => exact absurd rfl n
      | cons x u => simp
    · unfold Fl.beg
      simp
  | cons x v =>
    refine ⟨u.length, by simp, ?_⟩
    unfold Fl.beg
    simp

/-! middle points go around -/
theorem wp_app : ∀ (u : List Pt) (p : Pt) (v : List Pt) (nx : Pt), wp (u ++ p :: v) nx = wp u p ++ wp (p :: v) nx
  | [], _, _, _ => rfl
  | [x], p, v, nx => rfl
  | x :: y :: u, p, v, nx => by
    show w1 x y ++ wp (y :: u ++ p :: v) nx = (w1 x y ++ wp (y :: u) p) ++ wp (p :: v) nx
    rw [wp_app (y :: u) p v nx, List.append_assoc]
theorem wm_rot {a b : List Pt} (h : Rot a b) : Rot (wm a) (wm b) := by
  obtain ⟨u, v, rfl, rfl⟩ := h
  cases u with
  | nil => simpa using Rot.refl _
  | cons x u =>
    cases v with
    | nil => simpa using Rot.refl _
    | cons y v =>
      have e1 : wm (x :: u ++ y :: v) = wp (x :: u) y ++ wp (y :: v) x := wp_app (x :: u) y v x
      have e2 : wm (y :: v ++ x :: u) = wp (y :: v) x ++ wp (x :: u) y := wp_app (y :: v) x u y
      exact ⟨_, _, e1, e2⟩
theorem ro_rot (c : List Pt) : Rot (wm c) (ro c) := by
  unfold ro
  cases ps c with
  | nil =>
    refine ⟨(wm c).dropLast, (wm c).drop ((wm c).length - 1), ?_, rfl⟩
    rw [List.dropLast_eq_take, List.take_append_drop]
  | cons k l => exact wm_rot (Rot.beg c k)

/-! no two neighbours are off, around -/
def Nc : List Pt → Pt → Prop
  | [], _ => True
  | [p], nx => p.2.2 = true ∨ nx.2.2 = true
  | p :: q :: l, nx => (p.2.2 = true ∨ q.2.2 = true) ∧ Nc (q :: l) nx
theorem Nc.app : ∀ (u : List Pt) (p : Pt) (v : List Pt) (nx : Pt), Nc (u ++ p :: v) nx ↔ Nc u p ∧ Nc (p :: v) nx
  | [], _, _, _ => by simp [Nc]
  | [x], p, v, nx => by
    show (x.2.2 = true ∨ p.2.2 = true) ∧ Nc (p :: v) nx ↔ _
    rfl
  | x :: y :: u, p, v, nx => by
    show (x.2.2 = true ∨ y.2.2 = true) ∧ Nc (y :: u ++ p :: v) nx ↔ ((x.2.2 = true ∨ y.2.2 = true) ∧ Nc (y :: u) p) ∧ Nc (p :: v) nx
    rw [Nc.app (y :: u) p v nx, and_assoc]
theorem Nc.na : ∀ (l : List Pt) (nx : Pt), Nc l nx → Na (l ++ [nx])
  | [], _, _ => trivial
  | [p], nx, h => ⟨h, trivial⟩
  | p :: q :: l, nx, h => ⟨h.1, Nc.na (q :: l) nx h.2⟩
theorem w1_nc (p q : Pt) : Nc (w1 p q) q := by
  unfold w1
  by_cases hp : p.2.2 = true
  · rw [if_pos hp]; exact .inl hp
  · rw [if_neg hp]
    by_cases hq : q.2.2 = true
    · rw [if_pos hq]; exact .inr hq
    · rw [if_neg hq]
      exact ⟨.inr rfl, .inl rfl⟩
theorem wp_nc : ∀ (l : List Pt) (nx : Pt), Nc (wp l nx) nx
  | [], _ => trivial
  | [p], nx => w1_nc p nx
  | p :: q :: l, nx => by
    obtain ⟨t, e⟩ := wp_head q l nx
    have ih := wp_nc (q :: l) nx
    show Nc (w1 p q ++ wp (q :: l) nx) nx
    rw [e] at ih ⊢
    exact (Nc.app _ _ _ _).mpr ⟨w1_nc p q, ih⟩
/-- around -/
def Nr : List Pt → Prop
  | [] => True
  | p :: l => Nc (p :: l) p
theorem Nr.rot {a b : List Pt} (h : Rot a b) (k : Nr a) : Nr b := by
  obtain ⟨u, v, rfl, rfl⟩ := h
  cases u with
  | nil => simpa using k
  | cons x u =>
    cases v with
    | nil => simpa using k
    | cons y v =>
      have k : Nc (x :: u ++ y :: v) x := k
      show Nc (y :: v ++ x :: u) y
      rw [Nc.app] at k ⊢
      exact ⟨k.2, k.1⟩
theorem wm_nr (c : List Pt) : Nr (wm c) := by
  cases c with
  | nil => trivial
  | cons p l =>
    obtain ⟨t, e⟩ := wp_head p l p
    have h := wp_nc (p :: l) p
    show Nr (wp (p :: l) p)
    rw [e] at h ⊢
    exact h
theorem ro_nr (c : List Pt) : Nr (ro c) := (wm_nr c).rot (ro_rot c)

/-! the line, around -/
def er (l : List Pt) : List Pr := match l with
  | [] => []
  | p :: t => ep ((p :: t).getLast (by simp)) (p :: t) p
theorem ep_app : ∀ (u : List Pt) (pv p : Pt) (v : List Pt) (nx x : Pt), ep pv (x :: u ++ p :: v) nx = ep pv (x :: u) p ++ ep ((x :: u).getLast (by simp)) (p :: v) nx
  | [], _, _, _, _, _ => rfl
  | y :: u, pv, p, v, nx, x => by
    have ih := ep_app u x p v nx y
    show e1 pv x y ++ ep x (y :: u ++ p :: v) nx = (e1 pv x y ++ ep x (y :: u) p) ++ ep ((x :: y :: u).getLast (by simp)) (p :: v) nx
    rw [ih, List.append_assoc]
    rfl
theorem er_rot {a b : List Pt} (h : Rot a b) : Rot (er a) (er b) := by
  obtain ⟨u, v, rfl, rfl⟩ := h
  cases u with
  | nil => simpa using Rot.refl _
  | cons x u =>
    cases v with
    | nil => simpa using Rot.refl _
    | cons y v =>
      have g1 : (x :: u ++ y :: v).getLast (by simp) = (y :: v).getLast (by simp) := List.getLast_append_of_ne_nil (by simp) (by simp)
      have g2 : (y :: v ++ x :: u).getLast (by simp) = (x :: u).getLast (by simp) := List.getLast_append_of_ne_nil (by simp) (by simp)
      refine ⟨ep ((y :: v).getLast (by simp)) (x :: u) y, ep ((x :: u).getLast (by simp)) (y :: v) x, ?_, ?_⟩
      · show ep ((x :: u ++ y :: v).getLast (by simp)) (x :: u ++ y :: v) x = _
        rw [g1, ep_app]
      · show ep ((y :: v ++ x :: u).getLast (by simp)) (y :: v ++ x :: u) y = _
        rw [g2, ep_app]
theorem lnOf_er (c : List Pt) : lnOf c = er (ro c) := by
  unfold lnOf
  have hn := ro_nr c
  cases hro : ro c with
  | nil => rfl
  | cons r l =>
    have hr := ro_on hro
    rw [hro] at hn
    have hna : Na (r :: l ++ [r]) := Nc.na _ _ hn
    have h1 := tele r hr l ((r :: l).getLast (by simp)) r hna
    rw [if_pos hr] at h1
    have h2 : (List.range (r :: l).length).flatMap (st p0 (r :: l ++ [r])) = sp' p0 (r :: l ++ [r]) := by
      have := st_sp (l ++ [r]) p0 r
      rw [List.length_append] at this
      exact this
    have h3 : sp' p0 (r :: l ++ [r]) = sp' ((r :: l).getLast (by simp)) (r :: l ++ [r]) := by
      cases l with
      | nil =>
        show s1 _ r r ++ [] = s1 _ r r ++ []
        unfold s1
        simp [hr]
      | cons q l =>
        show s1 _ r q ++ _ = s1 _ r q ++ _
        unfold s1
        simp [hr]
    show (pr r :: (List.range (r :: l).length).flatMap (st p0 (r :: l ++ [r]))).dropLast = ep ((r :: l).getLast (by simp)) (r :: l) r
    rw [h2, h3]
    have h4 : pr r :: sp' ((r :: l).getLast (by simp)) (r :: l ++ [r]) = ep ((r :: l).getLast (by simp)) (r :: l) r ++ [pr r] := h1
    rw [h4, List.dropLast_concat]
theorem lnOf_rot {a b : List Pt} (h : Rot a b) : Rot (lnOf a) (lnOf b) := by
  rw [lnOf_er, lnOf_er]
  exact er_rot ((ro_rot a).symm.trans ((wm_rot h).trans (ro_rot b)))
theorem lnOf_ne {c : List Pt} (h : c ≠ []) : lnOf c ≠ [] := by
  rw [lnOf_er]
  have hl := ro_len c
  cases hro : ro c with
  | nil =>
    rw [hro] at hl
    exact absurd (List.eq_nil_of_length_eq_zero (by simpa using hl.2)) h
  | cons r l =>
    have hr := ro_on hro
    show ep _ (r :: l) r ≠ []
    cases l with
    | nil =>
      show e1 _ r r ≠ []
      unfold e1
      rw [if_pos hr]
      simp
    | cons q l =>
      show e1 _ r q ++ _ ≠ []
      unfold e1
      rw [if_pos hr]
      simp
end Fl
namespace Fl
open PySem PySem.Spec PyProof.Rows L2
theorem canLay_all (P : PyData → Prop) (h : ∀ d, P d → d.canLay0 = true) : ∀ ds : List PyData, (∀ d, d ∈ ds → P d) → PyData.canLayAll0 ds = true
  | [], _ => by simp [PyData.canLayAll0]
  | d :: ds, k => by
    simp [PyData.canLayAll0, h d (k d (by simp)), canLay_all P h ds (fun e m => k e (List.mem_cons_of_mem _ m))]
theorem depth_all (n : Nat) : ∀ ds : List PyData, (∀ d, d ∈ ds → d.depth ≤ n) → PyData.depthAll ds ≤ n
  | [], _ => by simp [PyData.depthAll]
  | d :: ds, k => by
    have h1 := k d (by simp)
    have h2 := depth_all n ds (fun e m => k e (List.mem_cons_of_mem _ m))
    simp only [PyData.depthAll]
    omega
theorem sh_list {ds : List PyData} {n : Nat} (h : ∀ d, d ∈ ds → d.canLay0 = true ∧ d.depth ≤ n) (hn : n < 64) : SeqAt.shaped (.list ds) = true := by
  unfold SeqAt.shaped
  have h1 := canLay_all (fun d => d.canLay0 = true) (fun _ h => h) ds (fun d m => (h d m).1)
  have h2 := depth_all n ds (fun d m => (h d m).2)
  have h3 : (PyData.list ds).depth = PyData.depthAll ds + 1 := by simp [PyData.depth]
  have h4 : (PyData.list ds).canLay0 = true := by simp [PyData.canLay0, h1]
  rw [h4, Bool.true_and, decide_eq_true_eq, h3]
  omega
theorem pr_lay (p : Pr) : (prD p).canLay0 = true ∧ (prD p).depth ≤ 1 := by
  unfold prD
  simp [PyData.canLay0, PyData.canLayAll0, PyData.depth, PyData.depthAll]
theorem sh_ln (l : List Pr) : SeqAt.shaped (lnD l) = true := sh_list (n := 1) (fun d m => by
  obtain ⟨p, _, rfl⟩ := List.mem_map.mp m
  exact pr_lay p) (by decide)
theorem eqv_self {d : PyData} (h : SeqAt.shaped d = true) : PyData.eqv d d = true := SeqAt.eqv_refl d (SeqAt.canLay_of_shaped h)
theorem g_eqD {K : PySem.W.Frag} {S T : List Addr} {H : Hp} {x y : V} {d e : PyData} {Q : VK} (h1 : Dq S H x d) (h2 : Dq T H y e) (s1 : SeqAt.shaped d = true) (s2 : SeqAt.shaped e = true) (q : Q (.bl (PyData.eqv d e)) H) : rEqD K x y H Q :=
  ⟨d, e, h1.dp (nodict_sh s1), h2.dp (nodict_sh s2), s1, s2, q⟩
theorem g_neD' {K : PySem.W.Frag} {S T : List Addr} {H : Hp} {x y : V} {d e : PyData} {Q : VK} (h1 : Dq S H x d) (h2 : Dq T H y e) (s1 : SeqAt.shaped d = true) (s2 : SeqAt.shaped e = true) (q : Q (.bl (!PyData.eqv d e)) H) : rNeD K x y H Q :=
  ⟨d, e, h1.dp (nodict_sh s1), h2.dp (nodict_sh s2), s1, s2, q⟩
end Fl
namespace Fl
open PySem PySem.Spec PyProof.Rows L2
theorem e1_len (a p b : Pt) : (e1 a p b).length ≤ 7 := by
  unfold e1
  split
  · simp
  · simp [cv7]
theorem ep_len : ∀ (l : List Pt) (pv nx : Pt), (ep pv l nx).length ≤ 7 * l.length
  | [], _, _ => Nat.le_refl _
  | [p], pv, nx => e1_len pv p nx
  | p :: q :: l, pv, nx => by
    have ih := ep_len (q :: l) p nx
    have h := e1_len pv p q
    show (e1 pv p q ++ ep p (q :: l) nx).length ≤ _
    rw [List.length_append]
    simp only [List.length_cons] at *
    omega
theorem lnOf_len (c : List Pt) : (lnOf c).length ≤ 14 * c.length := by
  rw [lnOf_er]
  have h := (ro_len c).1
  unfold er
  cases hro : ro c with
  | nil => simp
  | cons r l =>
    rw [hro] at h
    have := ep_len (r :: l) ((r :: l).getLast (by simp)) r
    show (ep ((r :: l).getLast (by simp)) (r :: l) r).length ≤ _
    omega
end Fl

set_option Elab.async false
set_option linter.all false
set_option maxRecDepth 100000
set_option maxHeartbeats 4000000
/-! flattened lists; least and greatest numbers; the same data twice -/
namespace Fl
open PySem PySem.Spec PyProof.Rows L2
section
variable {K : PySem.W.Frag} {S : List Addr} {H1 : Hp} {Q : VK}
def lc2K (J : It) (g : TG) (tt : TT) (wi1 : TI) (g1 : TG) (tt1 : TT) (te : TE) (vs vs1 : List Nat) (σ : L2.St) (H1 : Hp) (Q : VK) : Prop :=
  ∀ B, H1 B = none → ∃ W : Nat → Nat → Hp → Prop, (∃ m, W 0 m (upd H1 B (.lst []))) ∧ ∀ i m H, W i m H →
    (J.stop i H ∧ Q (.ref B) H) ∨ (J.go i H ∧ ∃ Nx : Hp → Prop, (∀ H', Nx H' → ∃ m', m' < m ∧ W (i + 1) m' H') ∧
      ∀ x H', J.yld i H x H' → g x (wipe σ vs) H' fun σ2 H2 => wipe σ2 vs = wipe σ vs ∧ tt σ2 H2 fun b H3 =>
        if b = true then wi1 σ2 H3 fun J1 H4 => ∃ W1 : Nat → Nat → Hp → Prop, (∃ m, W1 0 m H4) ∧ ∀ j k H, W1 j k H →
          (J1.stop j H ∧ Nx H) ∨ (J1.go j H ∧ ∃ Nx1 : Hp → Prop, (∀ H', Nx1 H' → ∃ k', k' < k ∧ W1 (j + 1) k' H') ∧
            ∀ x H', J1.yld j H x H' → g1 x (wipe σ2 vs1) H' fun σ3 H5 => wipe σ3 vs1 = wipe σ2 vs1 ∧ tt1 σ3 H5 fun b H6 =>
              if b = true then te σ3 H6 fun y H7 => ∃ acc, H7 B = some (.lst acc) ∧ acc.length < sizeLine ∧ Nx1 (upd H7 B (.lst (acc ++ [y]))) else Nx1 H6)
        else Nx H3)
theorem g_lc2 {wi : TI} {g : TG} {tt : TT} {wi1 : TI} {g1 : TG} {tt1 : TT} {te : TE} {vs vs1 : List Nat} {σ : L2.St} {H : Hp} (h : wi σ H fun J H1 => lc2K J g tt wi1 g1 tt1 te vs vs1 σ H1 Q) : tLc2 wi g tt wi1 g1 tt1 te vs vs1 σ H Q := h
theorem g_yesI {A B : Hp → Prop} {σ : L2.St} {H : Hp} (h : A H) : tYes σ H (fun b H3 => if b = true then A H3 else B H3) := h
structure FlatAt (S : List Addr) (H1 : Hp) (D : Addr) (ds : List PyData) (H : Hp) : Prop where
  ex : ∃ acc, H D = some (.lst acc) ∧ DqA (D :: S) H acc ds
  fr : Fr [D] H1 H
/-- [y for x in xs for y in x] -/
theorem lcLL {a : Addr} {es : List (List PyData)} {vs vs1 : List Nat} {σ : L2.St} {i0 j0 : Nat} (hS : Al S H1) (ha : Dq S H1 (.ref a) (.list (es.map PyData.list))) (hz : es.flatten.length < 1000)
    (hw : ∀ x, wipe ((wipe σ vs).set i0 (some x)) vs = wipe σ vs) (hw1 : ∀ x y, wipe ((wipe ((wipe σ vs).set i0 (some x)) vs1).set j0 (some y)) vs1 = wipe ((wipe σ vs).set i0 (some x)) vs1)
    (hi0 : ∀ x, ((wipe σ vs).set i0 (some x))[i0]? = some (some x)) (hj0 : ∀ x y, ((wipe ((wipe σ vs).set i0 (some x)) vs1).set j0 (some y))[j0]? = some (some y))
    (q : ∀ (D : Addr) (H : Hp), Same H1 H → H1 D = none → Dq S H (.ref D) (.list es.flatten) → Q (.ref D) H) :
    lc2K (Itl K a) (gName i0) tYes (iList K (tVar i0)) (gName j0) tYes (tVar j0) vs vs1 σ H1 Q := by
  intro D hD
  obtain ⟨a', xs, ea, na, hxs, hall⟩ := ha.lstE
  cases ea
  have hlx := hall.len
  rw [List.length_map] at hlx
  have hDa : a ≠ D := fun e => by rw [e, hD] at hxs; cases hxs
  have hDS : D ∉ S := hS.ni hD
  refine ⟨fun i m H => m = xs.length - i ∧ i ≤ xs.length ∧ FlatAt S H1 D (es.take i).flatten H, ⟨_, rfl, Nat.zero_le _, ⟨⟨[], upd_same, .nil⟩, Fr.same (Fl.Same.new hD)⟩⟩, ?_⟩
  rintro i m H ⟨rfl, hle, F⟩
  have hsm : Same H1 H := sm_of hD F.fr
  have qa : SqL K H a xs := SqL.of (F.fr a _ (by simpa using hDa) hxs)
  by_cases hlt : i < xs.length
  · refine .inr ⟨⟨xs, xs[i], qa, by simp [hlt]⟩, FlatAt S H1 D (es.take (i + 1)).flatten, fun H' p => ⟨xs.length - (i + 1), by omega, rfl, hlt, p⟩, fun x H' y => ?_⟩
    obtain ⟨e, y⟩ := y
    subst e
    have hx := y xs qa
    refine g_name ⟨hw x, g_yesI ?_⟩
    obtain ⟨e, he, dx⟩ := ((hall.new hD).same hsm).getM hx
    obtain ⟨b, zs, rfl, nb, hb, hB⟩ := dx.lstE
    have hDb : b ≠ D := fun e => nb (by rw [e]; simp)
    have hlz := hB.len
    have hflat : (es.take (i + 1)).flatten = (es.take i).flatten ++ e := by
      rw [List.take_succ, he, List.flatten_append]
      simp
    have hsub : (es.take (i + 1)).flatten.length ≤ es.flatten.length := by
      conv => rhs; rw [← List.take_append_drop (i + 1) es, List.flatten_append, List.length_append]
      omega
    refine g_il (g_var (hi0 _) (g_el (SqL.of hb) ?_))
    refine ⟨fun j k H => k = zs.length - j ∧ j ≤ zs.length ∧ FlatAt S H1 D ((es.take i).flatten ++ e.take j) H ∧ Fr [D] H' H, ⟨_, rfl, Nat.zero_le _, by simpa using F, Fr.refl⟩, ?_⟩
    rintro j k H2 ⟨rfl, hj, F2, f2⟩
    have qb : SqL K H2 b zs := SqL.of (f2 b _ (by simpa using hDb) hb)
    by_cases hjl : j < zs.length
    · refine .inr ⟨⟨zs, zs[j], qb, by simp [hjl]⟩, fun H => FlatAt S H1 D ((es.take i).flatten ++ e.take (j + 1)) H ∧ Fr [D] H' H, fun H3 p => ⟨zs.length - (j + 1), by omega, rfl, hjl, p⟩, fun x2 H3 y2 => ?_⟩
      obtain ⟨e2, y2⟩ := y2
      subst e2
      have hx2 := y2 zs qb
      refine g_name ⟨hw1 _ x2, g_yesI (g_var (hj0 _ x2) ?_)⟩
      obtain ⟨⟨acc, hacc, hA⟩, hf⟩ := F2
      have hfS : Fr (D :: S) H' H3 := f2.mono fun b m => by simpa using Or.inl (show b = D by simpa using m)
      obtain ⟨e', he', dx2⟩ := (hB.fr hfS).get hx2
      have hal := hA.len
      have hlen : ((es.take i).flatten ++ e.take j).length < 1000 := by
        rw [hflat] at hsub
        rw [List.length_append] at hsub ⊢
        rw [List.length_take]
        omega
      refine ⟨acc, hacc, ?_, ⟨⟨acc ++ [x2], upd_same, ?_⟩, hf.trans (Fr.upd (by simp))⟩, f2.trans (Fr.upd (by simp))⟩
      · have : (1000 : Nat) ≤ sizeLine := by decide
        omega
      · rw [List.take_succ, he', ← List.append_assoc]
        exact (hA.app (.one dx2)).fr (Fr.upd (by simp))
    · have ej : j = zs.length := by omega
      subst ej
      refine .inl ⟨⟨zs, qb, Nat.le_refl _⟩, ?_⟩
      rw [hflat]
      rw [List.take_of_length_le (l := e) (i := zs.length) (by omega)] at F2
      exact F2
  · have e : i = xs.length := by omega
    subst e
    refine .inl ⟨⟨xs, qa, Nat.le_refl _⟩, ?_⟩
    rw [List.take_of_length_le (by omega)] at F
    obtain ⟨⟨acc, hacc, hA⟩, hf⟩ := F
    exact q D _ hsm hD (.lst hDS hacc hA.tail)
end

/-! the least and the greatest -/
def IsMin (m : Int) (l : List Int) : Prop := m ∈ l ∧ ∀ y, y ∈ l → m ≤ y
def IsMax (m : Int) (l : List Int) : Prop := m ∈ l ∧ ∀ y, y ∈ l → y ≤ m
theorem ex_min : ∀ l : List Int, l ≠ [] → ∃ m, IsMin m l
  | [], h => absurd rfl h
  | [x], _ => ⟨x, by simp, fun y m => by rw [show y = x by simpa using m]; exact Int.le_refl _⟩
  | x :: z :: l, _ => by
    obtain ⟨m, h1, h2⟩ := ex_min (z :: l) (by simp)
    rcases Int.le_total x m with h | h
    · refine ⟨x, by simp, fun y my => ?_⟩
      rcases List.mem_cons.mp my with rfl | my
      · exact Int.le_refl _
      · exact Int.le_trans h (h2 y my)
    · refine ⟨m, List.mem_cons_of_mem _ h1, fun y my => ?_⟩
      rcases List.mem_cons.mp my with rfl | my
      · exact h
      · exact h2 y my
theorem ex_max : ∀ l : List Int, l ≠ [] → ∃ m, IsMax m l
  | [], h => absurd rfl h
  | [x], _ => ⟨x, by simp, fun y m => by rw [show y = x by simpa using m]; exact Int.le_refl _⟩
  | x :: z :: l, _ => by
    obtain ⟨m, h1, h2⟩ := ex_max (z :: l) (by simp)
    rcases Int.le_total x m with h | h
    · refine ⟨m, List.mem_cons_of_mem _ h1, fun y my => ?_⟩
      rcases List.mem_cons.mp my with rfl | my
      · exact h
      · exact h2 y my
    · refine ⟨x, by simp, fun y my => ?_⟩
      rcases List.mem_cons.mp my with rfl | my
      · exact Int.le_refl _
      · exact Int.le_trans (h2 y my) h
theorem IsMin.eq {m n : Int} {l : List Int} (h : IsMin m l) (k : IsMin n l) : m = n := Int.le_antisymm (h.2 n k.1) (k.2 m h.1)
theorem IsMax.eq {m n : Int} {l : List Int} (h : IsMax m l) (k : IsMax n l) : m = n := Int.le_antisymm (k.2 m h.1) (h.2 n k.1)
theorem ints_of {S : List Addr} {H : Hp} : ∀ {xs : List V} {ns : List Int}, DqA S H xs (ns.map PyData.int) → xs = ns.map V.int
  | _, [], h => h.nilE
  | _, n :: ns, h => by
    obtain ⟨v, ws, rfl, hv, hw⟩ := h.consE
    rw [hv.intE, ints_of hw]
    rfl
def rMinL (K : PySem.W.Frag) : List V → Hp → VK → Prop := fun vs H Q => ∃ (a : Addr) (ns : List Int), vs = [V.ref a] ∧ SqL K H a (ns.map V.int) ∧ ∃ m, IsMin m ns ∧ Q (.int m) H
def rMaxL (K : PySem.W.Frag) : List V → Hp → VK → Prop := fun vs H Q => ∃ (a : Addr) (ns : List Int), vs = [V.ref a] ∧ SqL K H a (ns.map V.int) ∧ ∃ m, IsMax m ns ∧ Q (.int m) H
section
variable {X : Cx} {K : PySem.W.Frag}
theorem clMin (e : X.K = K) (hc : X.calm = true) : CallR X (.builtin "min") (Fl.rMinL K) := by
  subst e
  intro pins s σ H xs us Q I r h
  obtain ⟨a, ns, rfl, hs, m, hm, q⟩ := h
  exact cr_min hc pins s σ H _ us Q I r ⟨a, ns, rfl, hs, List.length_pos_of_mem hm.1, fun m' h1 h2 => by rw [IsMin.eq ⟨h1, h2⟩ hm]; exact q⟩
theorem clMax (e : X.K = K) (hc : X.calm = true) : CallR X (.builtin "max") (Fl.rMaxL K) := by
  subst e
  intro pins s σ H xs us Q I r h
  obtain ⟨a, ns, rfl, hs, m, hm, q⟩ := h
  exact cr_max hc pins s σ H _ us Q I r ⟨a, ns, rfl, hs, List.length_pos_of_mem hm.1, fun m' h1 h2 => by rw [IsMax.eq ⟨h1, h2⟩ hm]; exact q⟩
theorem clSum (e : X.K = K) (hc : X.calm = true) : CallR X (.builtin "sum") (rSum K) := by subst e; exact cr_sum hc
theorem g_minL {a : Addr} {ns : List Int} {m : Int} {H : Hp} {Q : VK} (h : SqL K H a (ns.map V.int)) (hm : IsMin m ns) (q : Q (.int m) H) : Fl.rMinL K [.ref a] H Q := ⟨a, ns, rfl, h, m, hm, q⟩
theorem g_maxL {a : Addr} {ns : List Int} {m : Int} {H : Hp} {Q : VK} (h : SqL K H a (ns.map V.int)) (hm : IsMax m ns) (q : Q (.int m) H) : Fl.rMaxL K [.ref a] H Q := ⟨a, ns, rfl, h, m, hm, q⟩
theorem g_sum {a : Addr} {ns : List Int} {H : Hp} {Q : VK} (h : SqL K H a (ns.map V.int)) (q : Q (.int ns.sum) H) : rSum K [.ref a] H Q := ⟨a, ns, rfl, h, q⟩
end

/-! promises -/
def xsOf (o : List (List Pt)) : List Int := o.flatten.map fun p => p.1
def ysOf (o : List (List Pt)) : List Int := o.flatten.map fun p => p.2.1
def fBox (ds : List PyData) (d : PyData) : Prop := ∃ o : List (List Pt), ds = [ouD o] ∧ o.flatten.length < 900 ∧
  ((o.flatten = [] ∧ d = .none) ∨ ∃ x1 y1 x2 y2 : Int, IsMin x1 (xsOf o) ∧ IsMin y1 (ysOf o) ∧ IsMax x2 (xsOf o) ∧ IsMax y2 (ysOf o) ∧ d = .tuple [.int x1, .int y1, .int x2, .int y2])
def mv (x y : Int) (p : Pt) : Pt := (p.1 + x, p.2.1 + y, p.2.2)
def fMv (ds : List PyData) (d : PyData) : Prop := ∃ (o : List (List Pt)) (x y : Int), ds = [ouD o, .int x, .int y] ∧ o.length ≤ 100 ∧ (∀ c, c ∈ o → c.length ≤ 900) ∧ d = ouD (o.map fun c => c.map (mv x y))
/-- flat data -/
def FlD : PyData → Prop
  | .int _ | .bool _ | .none => True
  | _ => False
def TfD (d : PyData) : Prop := ∃ es, d = .tuple es ∧ es.length ≤ 10 ∧ ∀ e, e ∈ es → FlD e
/-- same(x, y), x and y the same flat data -/
def spSm1 : Sp := fun vs H Q _ => ∃ (S T : List Addr) (d : PyData) (x y : V), vs = [x, y] ∧ FlD d ∧ Dq S H x d ∧ Dq T H y d ∧ Q (.bl true) H
def spSm2 : Sp := fun vs H Q _ => ∃ (S T : List Addr) (d : PyData) (x y : V), vs = [x, y] ∧ TfD d ∧ Dq S H x d ∧ Dq T H y d ∧ Q (.bl true) H
def spSml : Sp := fun vs H Q _ => ∃ (S T : List Addr) (ds : List PyData) (x y : V), vs = [x, y] ∧ ds.length ≤ 900 ∧ (∀ d, d ∈ ds → TfD d) ∧ Dq S H x (.list ds) ∧ Dq T H y (.list ds) ∧ Q (.bl true) H
def spSmr : Sp := fun vs H Q _ => ∃ (S T : List Addr) (dss : List (List PyData)) (x y : V), vs = [x, y] ∧ Al S H ∧ dss.length ≤ 900 ∧ (∀ ds, ds ∈ dss → ds.length ≤ 900 ∧ ∀ d, d ∈ ds → TfD d) ∧ Dq S H x (.list (dss.map PyData.list)) ∧ Dq T H y (.list (dss.map PyData.list)) ∧ ∀ H', Same H H' → Q (.bl true) H'
theorem tf_pt (p : Pt) : TfD (ptD p) := ⟨_, rfl, by simp, fun e m => by
  simp only [List.mem_cons, List.not_mem_nil, or_false] at m
  rcases m with rfl | rfl | rfl <;> trivial⟩
theorem tf_pr (p : Pr) : TfD (prD p) := ⟨_, rfl, by simp, fun e m => by
  simp only [List.mem_cons, List.not_mem_nil, or_false] at m
  rcases m with rfl | rfl <;> trivial⟩
theorem trues_of {S : List Addr} {H : Hp} : ∀ (l : List Nat) (zs : List V), DqA S H zs (l.filterMap fun _ => some (PyData.bool true)) → zs.all flatV = true ∧ inV (.bl false) zs = false
  | [], zs, h => by
    rw [h.nilE]
    exact ⟨rfl, rfl⟩
  | _ :: l, zs, h => by
    obtain ⟨v, ws, rfl, hv, hw⟩ := h.consE
    obtain ⟨h1, h2⟩ := trues_of l ws hw
    rw [hv.blE]
    exact ⟨by rw [List.all_cons, h1]; rfl, by
      show (eqV (.bl true) (.bl false) || inV (.bl false) ws) = false
      rw [h2]
      rfl⟩
end Fl

set_option Elab.async false
set_option linter.all false
set_option maxRecDepth 100000
set_option maxHeartbeats 4000000
/-! lines: where they lie, where they begin, how they move -/
namespace Fl
open PySem PySem.Spec PyProof.Rows L2
theorem e1_in {P : Pt → Prop} {R : Pr → Prop} (h1 : ∀ p, P p → R (pr p)) (h2 : ∀ a p b n, n < 7 → P a → P p → P b → R (cp a p b n)) {a p b : Pt} (ha : P a) (hp : P p) (hb : P b) {x : Pr} (m : x ∈ e1 a p b) : R x := by
  unfold e1 at m
  split at m
  · rw [show x = pr p by simpa using m]
    exact h1 p hp
  · unfold cv7 at m
    obtain ⟨n, hn, rfl⟩ := List.mem_map.mp m
    exact h2 a p b n (List.mem_range.mp hn) ha hp hb
theorem ep_in {P : Pt → Prop} {R : Pr → Prop} (h1 : ∀ p, P p → R (pr p)) (h2 : ∀ a p b n, n < 7 → P a → P p → P b → R (cp a p b n)) : ∀ (l : List Pt) (pv nx : Pt), P pv → P nx → (∀ p, p ∈ l → P p) → ∀ x, x ∈ ep pv l nx → R x
  | [], _, _, _, _, _, _, m => nomatch m
  | [p], pv, nx, hv, hn, h, x, m => e1_in h1 h2 hv (h p (by simp)) hn m
  | p :: q :: l, pv, nx, hv, hn, h, x, m => by
    rcases List.mem_append.mp (show x ∈ e1 pv p q ++ ep p (q :: l) nx from m) with m | m
    · exact e1_in h1 h2 hv (h p (by simp)) (h q (by simp)) m
    · exact ep_in h1 h2 (q :: l) p nx (h p (by simp)) hn (fun z mz => h z (List.mem_cons_of_mem _ mz)) x m
theorem lnOf_in {P : Pt → Prop} {R : Pr → Prop} (hP : InB P) (h1 : ∀ p, P p → R (pr p)) (h2 : ∀ a p b n, n < 7 → P a → P p → P b → R (cp a p b n)) {c : List Pt} (h : ∀ p, p ∈ c → P p) : ∀ x, x ∈ lnOf c → R x := by
  intro x m
  rw [lnOf_er] at m
  have hr := ro_in hP h
  cases hro : ro c with
  | nil => rw [hro] at m; cases m
  | cons r l =>
    rw [hro] at m hr
    exact ep_in h1 h2 (r :: l) _ r (hr _ (List.getLast_mem _)) (hr r (by simp)) hr x m
theorem cv_box {lo hi n a c b : Int} (h0 : 1 ≤ n) (h1 : n ≤ 7) (ha : lo ≤ a ∧ a ≤ hi) (hc : lo ≤ c ∧ c ≤ hi) (hb : lo ≤ b ∧ b ≤ hi) : lo ≤ cv n a c b ∧ cv n a c b ≤ hi := by
  unfold cv
  rcases (by omega : n = 1 ∨ n = 2 ∨ n = 3 ∨ n = 4 ∨ n = 5 ∨ n = 6 ∨ n = 7) with rfl | rfl | rfl | rfl | rfl | rfl | rfl <;> omega
theorem ln_box {x1 y1 x2 y2 : Int} {c : List Pt} (h : ∀ p, p ∈ c → (x1 ≤ p.1 ∧ p.1 ≤ x2) ∧ y1 ≤ p.2.1 ∧ p.2.1 ≤ y2) : ∀ z, z ∈ lnOf c → (x1 ≤ z.1 ∧ z.1 ≤ x2) ∧ y1 ≤ z.2 ∧ z.2 ≤ y2 := by
  refine lnOf_in (P := fun p => (x1 ≤ p.1 ∧ p.1 ≤ x2) ∧ y1 ≤ p.2.1 ∧ p.2.1 ≤ y2) (R := fun z => (x1 ≤ z.1 ∧ z.1 ≤ x2) ∧ y1 ≤ z.2 ∧ z.2 ≤ y2) ?_ (fun p hp => hp) ?_ h
  · intro p q hp hq
    refine ⟨⟨?_, ?_⟩, ?_, ?_⟩
    · show _ ≤ (p.1 + q.1) / 2; omega
    · show (p.1 + q.1) / 2 ≤ _; omega
    · show _ ≤ (p.2.1 + q.2.1) / 2; omega
    · show (p.2.1 + q.2.1) / 2 ≤ _; omega
  · intro a p b n hn ha hp hb
    exact ⟨cv_box (by omega) (by omega) ha.1 hp.1 hb.1, cv_box (by omega) (by omega) ha.2 hp.2 hb.2⟩

/-! the points that are on -/
def fon (c : List Pt) : List Pt := c.filter fun p => p.2.2
theorem range_map (c : List Pt) : (List.range c.length).map (fun i => c.getD i p0) = c := by
  apply List.ext_getElem
  · simp
  · intro i h1 h2
    rw [List.getElem_map, List.getElem_range, List.getD_eq_getElem?_getD, List.getElem?_eq_getElem h2]
    rfl
theorem fon_ps (c : List Pt) : fon c = (ps c).map fun i => c.getD i p0 := by
  have h : fon c = fon ((List.range c.length).map fun i => c.getD i p0) := by rw [range_map]
  rw [h]
  unfold fon ps
  rw [List.filter_map]
  rfl
theorem lnOf_head {c : List Pt} {f : Pt} {t : List Pt} (h : fon c = f :: t) : ∃ l, lnOf c = pr f :: l := by
  rw [fon_ps] at h
  cases hps : ps c with
  | nil => rw [hps] at h; cases h
  | cons k u =>
    rw [hps] at h
    have hk : k ∈ ps c := by rw [hps]; simp
    have hkl : k < c.length := ps_lt hk
    have hx : c[k]? = some c[k] := List.getElem?_eq_getElem hkl
    have hf : c[k] = f := by
      rw [List.map_cons] at h
      rw [← (List.cons.inj h).1, getD_of hx]
    have hon := ps_on hk
    rw [getD_of hx] at hon
    obtain ⟨v, hv⟩ := beg_head hx
    have hro : ro c = wm (beg c k) := by unfold ro; rw [hps]
    obtain ⟨z, hz⟩ := wp_head c[k] v c[k]
    rw [hv] at hro
    have hro : ro c = c[k] :: z := hro.trans hz
    rw [lnOf_er, hro, ← hf]
    show ∃ l, ep _ (c[k] :: z) c[k] = _
    cases z with
    | nil =>
      refine ⟨[], ?_⟩
      show e1 _ _ _ = _
      unfold e1
      rw [if_pos hon]
    | cons q z =>
      refine ⟨ep c[k] (q :: z) c[k], ?_⟩
      show e1 _ _ _ ++ _ = _
      unfold e1
      rw [if_pos hon]
      rfl
theorem wp_on : ∀ (l : List Pt) (nx : Pt), (∀ p, p ∈ l → p.2.2 = true) → wp l nx = l
  | [], _, _ => rfl
  | [p], nx, h => by
    show w1 p nx = _
    unfold w1
    rw [if_pos (h p (by simp))]
  | p :: q :: l, nx, h => by
    show w1 p q ++ wp (q :: l) nx = _
    rw [wp_on (q :: l) nx (fun x m => h x (List.mem_cons_of_mem _ m))]
    unfold w1
    rw [if_pos (h p (by simp))]
    rfl
theorem ep_on : ∀ (l : List Pt) (pv nx : Pt), (∀ p, p ∈ l → p.2.2 = true) → ep pv l nx = l.map pr
  | [], _, _, _ => rfl
  | [p], pv, nx, h => by
    show e1 pv p nx = _
    unfold e1
    rw [if_pos (h p (by simp))]
    rfl
  | p :: q :: l, pv, nx, h => by
    show e1 pv p q ++ ep p (q :: l) nx = _
    rw [ep_on (q :: l) p nx (fun x m => h x (List.mem_cons_of_mem _ m))]
    unfold e1
    rw [if_pos (h p (by simp))]
    rfl
theorem lnOf_on {c : List Pt} (h : ∀ p, p ∈ c → p.2.2 = true) : lnOf c = c.map pr := by
  have hr : ro c = c := by
    cases c with
    | nil => rfl
    | cons p l =>
      have h0 : ps (p :: l) = List.range (p :: l).length := by
        unfold ps
        rw [List.filter_eq_self]
        intro i hi
        have hi := List.mem_range.mp hi
        have hx : (p :: l)[i]? = some (p :: l)[i] := List.getElem?_eq_getElem hi
        show ((p :: l).getD i p0).2.2 = true
        rw [getD_of hx]
        exact h _ (List.mem_of_getElem? hx)
      unfold ro
      rw [h0, show (p :: l).length = l.length + 1 from rfl, List.range_succ_eq_map]
      show wm (beg (p :: l) 0) = p :: l
      have hb : beg (p :: l) 0 = p :: l := by unfold beg; simp
      rw [hb]
      exact wp_on (p :: l) p h
  rw [lnOf_er, hr]
  cases c with
  | nil => rfl
  | cons p l => exact ep_on (p :: l) _ p h
theorem fon_all {c : List Pt} (h : (fon c).length = c.length) : (∀ p, p ∈ c → p.2.2 = true) ∧ fon c = c := by
  have h2 : fon c = c := List.Sublist.eq_of_length (List.filter_sublist) h
  refine ⟨fun p m => ?_, h2⟩
  rw [← h2] at m
  exact (List.mem_filter.mp m).2

/-! moving -/
def mp (x y : Int) (p : Pr) : Pr := (p.1 + x, p.2 + y)
section
variable (x y : Int)
theorem w1_mv (p q : Pt) : w1 (mv x y p) (mv x y q) = (w1 p q).map (mv x y) := by
  have h : mid (mv x y p) (mv x y q) = mv x y (mid p q) := by
    refine Prod.ext ?_ (Prod.ext ?_ rfl)
    · show (p.1 + x + (q.1 + x)) / 2 = (p.1 + q.1) / 2 + x
      omega
    · show (p.2.1 + y + (q.2.1 + y)) / 2 = (p.2.1 + q.2.1) / 2 + y
      omega
  have e1 : (mv x y p).2.2 = p.2.2 := rfl
  have e2 : (mv x y q).2.2 = q.2.2 := rfl
  unfold w1
  rw [e1, e2, h]
  split
  · rfl
  · split <;> rfl
theorem wp_mv : ∀ (l : List Pt) (nx : Pt), wp (l.map (mv x y)) (mv x y nx) = (wp l nx).map (mv x y)
  | [], _ => rfl
  | [p], nx => w1_mv x y p nx
  | p :: q :: l, nx => by
    have ih := wp_mv (q :: l) nx
    show w1 (mv x y p) (mv x y q) ++ wp ((q :: l).map (mv x y)) (mv x y nx) = (w1 p q ++ wp (q :: l) nx).map (mv x y)
    rw [ih, w1_mv, List.map_append]
theorem wm_mv (c : List Pt) : wm (c.map (mv x y)) = (wm c).map (mv x y) := by
  cases c with
  | nil => rfl
  | cons p l => exact wp_mv x y (p :: l) p
theorem ps_mv (c : List Pt) : ps (c.map (mv x y)) = ps c := by
  unfold ps
  rw [List.length_map]
  apply List.filter_congr
  intro i hi
  have hi := List.mem_range.mp hi
  have hx : c[i]? = some c[i] := List.getElem?_eq_getElem hi
  have hy : (c.map (mv x y))[i]? = some (mv x y c[i]) := by rw [List.getElem?_map, hx]; rfl
  rw [getD_of hx, getD_of hy]
  rfl
theorem beg_map {α β : Type} (f : α → β) (c : List α) (k : Nat) : beg (c.map f) k = (beg c k).map f := by
  unfold beg
  rw [List.map_append, List.map_drop, List.map_take]
theorem ro_mv (c : List Pt) : ro (c.map (mv x y)) = (ro c).map (mv x y) := by
  unfold ro
  rw [ps_mv, wm_mv]
  cases ps c with
  | nil =>
    show ((wm c).map (mv x y)).drop (((wm c).map (mv x y)).length - 1) ++ ((wm c).map (mv x y)).dropLast = ((wm c).drop ((wm c).length - 1) ++ (wm c).dropLast).map (mv x y)
    rw [List.map_append, List.map_drop, List.length_map, List.map_dropLast]
  | cons k l =>
    show wm (beg (c.map (mv x y)) k) = (wm (beg c k)).map (mv x y)
    rw [beg_map, wm_mv]
theorem cv_mv {n : Int} (h0 : 1 ≤ n) (h1 : n ≤ 7) (a c b z : Int) : cv n (a + z) (c + z) (b + z) = cv n a c b + z := by
  unfold cv
  rcases (by omega : n = 1 ∨ n = 2 ∨ n = 3 ∨ n = 4 ∨ n = 5 ∨ n = 6 ∨ n = 7) with rfl | rfl | rfl | rfl | rfl | rfl | rfl <;> omega
theorem e1_mv (a p b : Pt) : e1 (mv x y a) (mv x y p) (mv x y b) = (e1 a p b).map (mp x y) := by
  have e1' : (mv x y p).2.2 = p.2.2 := rfl
  unfold e1
  rw [e1']
  split
  · rfl
  · unfold cv7
    rw [List.map_map]
    apply List.map_congr_left
    intro n hn
    have hn := List.mem_range.mp hn
    exact Prod.ext (cv_mv (by omega) (by omega) _ _ _ _) (cv_mv (by omega) (by omega) _ _ _ _)
theorem ep_mv : ∀ (l : List Pt) (pv nx : Pt), ep (mv x y pv) (l.map (mv x y)) (mv x y nx) = (ep pv l nx).map (mp x y)
  | [], _, _ => rfl
  | [p], pv, nx => e1_mv x y pv p nx
  | p :: q :: l, pv, nx => by
    have ih := ep_mv (q :: l) p nx
    show e1 (mv x y pv) (mv x y p) (mv x y q) ++ ep (mv x y p) ((q :: l).map (mv x y)) (mv x y nx) = (e1 pv p q ++ ep p (q :: l) nx).map (mp x y)
    rw [ih, e1_mv, List.map_append]
theorem lnOf_mv (c : List Pt) : lnOf (c.map (mv x y)) = (lnOf c).map (mp x y) := by
  rw [lnOf_er, lnOf_er, ro_mv]
  cases ro c with
  | nil => rfl
  | cons r l =>
    have hg : ((r :: l).map (mv x y)).getLast (by simp) = mv x y ((r :: l).getLast (by simp)) := List.getLast_map (by simp)
    show ep (((r :: l).map (mv x y)).getLast (by simp)) ((r :: l).map (mv x y)) (mv x y r) = (ep ((r :: l).getLast (by simp)) (r :: l) r).map (mp x y)
    rw [hg, ep_mv]
end
end Fl
namespace Fl
open PySem PySem.Spec PyProof.Rows L2
theorem fon_fm (c : List Pt) : (List.range c.length).filterMap (fun i => if (c.getD i p0).2.2 = true then some (prD (pr (c.getD i p0))) else none) = ((fon c).map pr).map prD := by
  rw [fm_filter (fun i => (c.getD i p0).2.2) (fun i => prD (pr (c.getD i p0))), fon_ps, List.map_map, List.map_map]
  rfl
theorem xs_one (c : List Pt) : xsOf [c] = c.map fun p => p.1 := by unfold xsOf; simp
theorem ys_one (c : List Pt) : ysOf [c] = c.map fun p => p.2.1 := by unfold ysOf; simp
/-- a box of one contour -/
theorem box_one {c : List Pt} (h : c ≠ []) : ∃ x1 y1 x2 y2 : Int, (IsMin x1 (xsOf [c]) ∧ IsMin y1 (ysOf [c]) ∧ IsMax x2 (xsOf [c]) ∧ IsMax y2 (ysOf [c])) ∧ ∀ z, z ∈ lnOf c → (x1 ≤ z.1 ∧ z.1 ≤ x2) ∧ y1 ≤ z.2 ∧ z.2 ≤ y2 := by
  obtain ⟨x1, m1⟩ := ex_min (xsOf [c]) (by rw [xs_one]; simpa using h)
  obtain ⟨y1, m2⟩ := ex_min (ysOf [c]) (by rw [ys_one]; simpa using h)
  obtain ⟨x2, m3⟩ := ex_max (xsOf [c]) (by rw [xs_one]; simpa using h)
  obtain ⟨y2, m4⟩ := ex_max (ysOf [c]) (by rw [ys_one]; simpa using h)
  refine ⟨x1, y1, x2, y2, ⟨m1, m2, m3, m4⟩, ln_box fun p hp => ?_⟩
  have a1 : p.1 ∈ xsOf [c] := by rw [xs_one]; exact List.mem_map.mpr ⟨p, hp, rfl⟩
  have a2 : p.2.1 ∈ ysOf [c] := by rw [ys_one]; exact List.mem_map.mpr ⟨p, hp, rfl⟩
  exact ⟨⟨m1.2 _ a1, m3.2 _ a1⟩, m2.2 _ a2, m4.2 _ a2⟩
theorem sh_pr (p : Pr) : SeqAt.shaped (prD p) = true := by
  have h := pr_lay p
  unfold SeqAt.shaped
  rw [h.1, Bool.true_and, decide_eq_true_eq]
  omega
theorem sh_nil : SeqAt.shaped (PyData.list []) = true := sh_list (n := 0) (fun _ m => nomatch m) (by decide)
theorem eqv_cons_nil (x : PyData) (l : List PyData) : PyData.eqv (.list (x :: l)) (.list []) = false := by simp [PyData.eqv, PyData.eqvAll]
theorem prE {S : List Addr} {H : Hp} {v : V} {p : Pr} (h : Dq S H v (prD p)) : ∃ a, v = .ref a ∧ a ∉ S ∧ H a = some (.tup [.int p.1, .int p.2]) := by
  obtain ⟨a, xs, rfl, n, q, r⟩ := h.tupE
  obtain ⟨x1, w1, rfl, h1, r⟩ := r.consE
  obtain ⟨x2, w2, rfl, h2, r⟩ := r.consE
  cases r.nilE
  cases h1.intE
  cases h2.intE
  exact ⟨a, rfl, n, q⟩
end Fl
namespace Fl
open PySem PySem.Spec PyProof.Rows L2
theorem g_andF {k : Bool} {t2 : TT} {σ : L2.St} {H : Hp} {Q : Bool → Hp → Prop} (h : Q false H) (h2 : k = true → Q false H → t2 σ H Q) : if k = true then t2 σ H Q else Q false H := by
  cases k with
  | true => rw [if_pos rfl]; exact h2 rfl h
  | false => rw [if_neg Bool.false_ne_true]; exact h
end Fl

set_option Elab.async false
set_option linter.all false
set_option maxRecDepth 100000
set_option maxHeartbeats 4000000
/-! repr of data; the law's def, called from outside (no guard stands below it) -/
namespace Fl
open PySem PySem.Spec PyProof.Rows L2

/-! ### repr -/
structure Shw (d : PyData) : Prop where
  sh : d.showable = true
  nd : d.hasDict = false
  dp : d.depth ≤ 40
  lv : d.leavesShort 13 = true
  wt : d.weight ≤ 2 ^ 20
def rRp (K : PySem.W.Frag) : List V → Hp → VK → Prop := fun xs H Q => ∃ (a : Addr) (d : PyData), xs = [.ref a] ∧ Dp K H (.ref a) d ∧ Shw d ∧ Q (.str d.shown) H
theorem clRepr {X : Cx} {K : PySem.W.Frag} (e : X.K = K) (hg : X.A.guards = some []) (hu : X.A.units + 64 < cLine) : CallR X (.builtin "repr") (rRp K) := by
  subst e
  intro pins s σ H xs us Q I r h
  obtain ⟨a, d, rfl, hd, hw, q⟩ := h
  obtain ⟨u, rfl, hu1⟩ := vals1 r
  cases hu1
  obtain ⟨as, rd⟩ := Dp.reads I d (.ref a) (.ref a) hd rfl
  have hdp := hw.dp
  refine repr_of_reads' rd hw.sh (fun z => ?_) hg (by omega) (fun b o z => z) (fun h' u tk hk => ⟨.str _, H, I.kept hk, ⟨u, rfl⟩, q⟩) (PyData.shown_fits (B := 13) (by decide) (by decide) hw.lv hw.wt)
  rw [hw.nd] at z
  cases z
theorem g_rp {K : PySem.W.Frag} {H : Hp} {Q : VK} {S : List Addr} {a : Addr} {d : PyData} (h : Dq S H (.ref a) d) (w : Shw d) (q : Q (.str d.shown) H) : rRp K [.ref a] H Q := ⟨a, d, rfl, h.dp w.nd, w, q⟩

/-! ### the law's def -/
def AtLaw (P : Program) (w : World) (K : PySem.W.Frag) (mg : Str → Option Value) (f : Addr) (fd : FuncData) (x : Str) (sp : Sp) : Prop :=
  ∀ base : Heap, K.In base → base.Ns mainGlobals mg → ∀ (s : Shared) (H : Hp) (a : Addr) (Q : VK), Env0 P w K mg base callerA [] s H → BindsTo s fd ⟨[.ref a], []⟩ [(x, .ref a)] → sp [.ref a] H Q E0 →
    codeAny (model P w) callerA (.call (.ref f) ⟨[.ref a], []⟩) (CR CX0 [] P w H s Q E0) s
theorem atLaw_of {P : Program} {w : World} {K : PySem.W.Frag} {mg : Str → Option Value} {k : Nat} {x y : Str} {st : Stmt} {N : List Str} {sp : Sp} {f : Addr} {fd : FuncData} (F : Fun K x x st f fd) (S : FnScope N [y] (defScope st)) (hr : Room (k + 1) callerA)
    (body : ∀ (base : Heap) (cdv : Value) (s : Shared) (H : Hp) (a : Addr) (Q : VK), Room k (callerA.deeper (envOfC x (defScope st) s.heap.objs.size f cdv)) → sp [.ref a] H Q E0 →
      ∃ t, PSs (bx P w K mg base N x st f cdv callerA [] s H E0) (defBody st) t ∧ t { nx := fun _ H' => Q .non H', rt := Q } (start N [.ref a]) H) : AtLaw P w K mg f fd y sp := by
  obtain ⟨_, _, kV, doc, pm, an, cdv, ct, _, rfl, atf, code⟩ := F.ex
  intro base kb nb s H a Q e0 bind hsp
  have here : ∀ {b : Addr} {o : Obj}, base.get? b = some o → s.heap.get? b = some o := fun e => (e0.bs _ _ e).1
  have Ks : K.In s.heap := e0.mod.kin.keeps fun _ _ => here
  have kinds : ∀ z ∈ [(y, Value.ref a)], (defScope st).names.lookup z.1 = some .local ∨ ((defScope st).names.lookup z.1 = some .cell ∧ ((cellsFrom (s.heap.objs.size + 1) (defScope st).names []).lookup z.1).isSome = true) := by
    intro z hz
    obtain rfl := List.mem_singleton.mp hz
    cases S.par y (List.mem_singleton.mpr rfl) with
    | inl q => exact .inl q
    | inr q => exact .inr ⟨q, PySem.W.cellsFrom_some _ _ _ (.inl q)⟩
  have vals : Vals [V.ref a] [Value.ref a] := .cons rfl .nil
  obtain ⟨t, ht, hq⟩ := body base cdv s H a Q (hr.deeper _) hsp
  exact codeAny_call_function hr.depth (Ks _ _ atf) rfl S.co S.gen rfl (PySem.W.codeRec_of Ks code) (bind _ _ _ _ (wpAny_newFunctionEnv_cells S.kind kinds (fun env he s1 z => by
    subst he
    refine ⟨(e0.mod.nolimit.keeps fun _ _ => here).keeps z.toInCall.keep, codeAny_func ?_⟩
    have I := inv_start (N := N) (E := E0) (CX := CX0) S hr.hd e0 rfl vals z
    have R := (PSs.nox (X := cxOf CX0 P w K mg base N x (defScope st) f cdv callerA [] s H E0) ht).run [] s1 (start N [.ref a]) H _ I hq
    exact wpAny_mono R (fun fl s' hs => (match fl, hs with
      | .ret u, ⟨v, σ', H', J, rv, q⟩ => ⟨v, H', J.os, J.bare, J.base, J.hok, rv, q⟩
      | .next, ⟨σ', H', J, q⟩ => ⟨.non, H', J.os, J.bare, J.base, J.hok, rfl, q⟩
      | .brk, ⟨_, _, _, q⟩ => q.elim
      | .cont, ⟨_, _, _, q⟩ => q.elim)) (fun _ _ z => z))))
/-- the goal of the end, from the law's def called from outside: nothing is tracked but the script -/
theorem atLaw_end {l : PySem.W.OpenLaw} {n : Nat} {q : Program} {loose : List Str} {XP : (Str → Option Value) → Heap → Prop} {YP : World → Heap → Prop} {d : DefRec} {K : Params → PySem.W.Frag} {sp : PySem.W.Frag → Sp} {x : Str}
    (hn : l.most = some n) (hn2 : n ≤ sizeLine) (hdf : d.params.defaults = []) (hY : ∀ (w : World) (h : Heap), YP w h → (K w.params).In h)
    (F : ∀ (w : World) (mg : Str → Option Value) (fa : Addr) (h : Heap), (K w.params).In h → h.Ns mainGlobals mg → mg d.name = some (.ref fa) →
      ∃ fd : FuncData, (∀ (s : Shared) (u : Value), BindsTo s fd ⟨[u], []⟩ [(x, u)]) ∧ AtLaw l.prog w (K w.params) mg fa fd x (sp (K w.params)))
    (hsp : ∀ (K : PySem.W.Frag) (H : Hp) (a : Addr) (ns : List Int), ns.length ≤ n → SqL K H a (ns.map V.int) → sp K [.ref a] H (fun v _ => v = .bl true) E0) :
    PySem.W.WalkO q loose XP YP l.row.toRowW d [] (fun f vs => PySem.call f vs) := by
  refine Att.attach_call hn hdf fun w s₀ s₁ mg mb fa o pm cd doc a vs ns G Y ho hd hcd hmg hobj hints hlen hg => ?_
  have Kh := hY w _ Y
  obtain ⟨fd, bind, run⟩ := F w mg fa _ Kh G.T.g hmg
  have vals := vals_ints hints
  -- the script: one of the module's own lists, or the one object that is tracked
  obtain ⟨H, only, sq, hok, none_of, own⟩ : ∃ H : Hp, Only H ∧ SqL (K w.params) H a (ns.map V.int) ∧ HOk l.prog w H s₁.heap ∧ (∀ b, b ≠ a → H b = none) ∧ (H a ≠ none → (K w.params).lookup a = none) := by
    have fits : (ns.map V.int).length ≤ sizeLine := by rw [List.length_map]; exact Nat.le_trans hlen hn2
    cases hk : (K w.params).lookup a with
    | some u =>
      cases hobj.symm.trans (Kh a u hk)
      refine ⟨fun _ => none, fun _ => .inl rfl, .inr ⟨_, vs.toArray, _, hk, rfl, rfl, rfl, ?_, by simpa using vals⟩, fun b u z => (nomatch (show (none : Option HO) = some u from z)), fun _ _ => rfl, fun z => (z rfl).elim⟩
      rw [List.size_toArray, hints.length]
      exact Nat.le_trans hlen hn2
    | none =>
      have at_a : ∀ {b : Addr}, b = a → (if b = a then some (HO.frz { cls := .type "list", data := .seq vs.toArray } (.lst (ns.map V.int))) else none) = some (HO.frz { cls := .type "list", data := .seq vs.toArray } (.lst (ns.map V.int))) := fun e => if_pos e
      refine ⟨fun b => if b = a then some (HO.frz { cls := .type "list", data := .seq vs.toArray } (.lst (ns.map V.int))) else none, fun b => ?_, .inl (.inr ⟨_, at_a rfl⟩), fun b u z => ?_, fun b e => if_neg e, fun _ => rfl⟩
      · rcases Decidable.em (b = a) with e | e
        · exact .inr ⟨_, _, at_a e⟩
        · exact .inl (if_neg e)
      · rcases Decidable.em (b = a) with e | e
        · cases (at_a e).symm.trans z
          exact ⟨by rw [e]; exact hobj, fits, vs, _, vals, by rw [e]; exact hobj⟩
        · cases (if_neg e).symm.trans z
  have keep : ∀ {b : Addr} {u : Obj}, s₁.heap.get? b = some u → H b = none → (hidT s₁.heap H).get? b = some u := fun e z => hidT_get e z
  have plain : ∀ {b : Addr} {u : Obj} {es : Array DictEntry} {ep : Nat}, s₁.heap.get? b = some u → u.data = .dict es ep → H b = none := by
    intro b u es ep e z
    rcases Decidable.em (b = a) with e2 | e2
    · rw [e2] at e
      cases hobj.symm.trans e
      exact (nomatch (show Data.seq vs.toArray _ = Data.dict es ep from z))
    · exact none_of b e2
  have space : ∀ {b : Addr} {m : Str → Option Value}, s₁.heap.Ns b m → (hidT s₁.heap H).Ns b m := fun ⟨u, es, ep, e, z, r⟩ => ⟨u, es, ep, keep e (plain e z), z, r⟩
  have Kb : (K w.params).In (hidT s₁.heap H) := fun b u e => keep (Kh b u e) (by
    rcases Decidable.em (b = a) with e2 | e2
    · cases z : H b with
      | none => rfl
      | some v =>
        rw [e2] at e z
        rw [own (by rw [z]; exact Option.some_ne_none _)] at e
        cases e
    · exact none_of b e2)
  obtain ⟨mc, lim1, lim2⟩ := G.T.nolimit
  have e0 : Env0 l.prog w (K w.params) mg (hidT s₁.heap H) callerA [] s₁ H := ⟨rfl, ⟨Kb, space G.T.g, ⟨mb, space G.T.b, G.T.builtins⟩, ⟨mc, space lim1, lim2⟩⟩, fun b u e => of_hidT e, Nat.le_of_eq (hidT_size _ _), trivial, fun b hb => (nomatch (show b ∈ ([] : List Addr) from hb)), hok, .of_eq hg⟩
  refine codeAny_mono (run _ Kb (space G.T.g) s₁ H a _ e0 (bind s₁ (.ref a)) (hsp _ H a ns hlen sq)) fun r s' h => ?_
  match r, h with
  | .ok (.ret u), ⟨v, H', os, bare, un, hok', rv, q⟩ =>
    obtain rfl : v = .bl true := q
    obtain rfl : u = Value.bool true := rv
    refine ⟨rfl, OldK.of_keep fun b u e => ?_, os, bare⟩
    cases z : H b with
    | none => exact un.keep b u e z (fun m => (nomatch (show b ∈ ([] : List Addr) from m))) (List.not_mem_nil)
    | some v =>
      rcases only b with y | ⟨u2, xs, y⟩
      · cases y.symm.trans z
      · have later := (hok' b _ (un.frzs b u2 _ y)).1
        rw [e.symm.trans (hok b _ y).1]
        exact later
end Fl

set_option Elab.async false
set_option linter.all false
set_option maxRecDepth 100000
set_option maxHeartbeats 4000000
/-! slices of lists backwards, by ones -/
namespace Fl
open PySem PySem.Spec PyProof.Rows L2

/-- what xs[lo:hi:-1] takes -/
def pickR {α : Type} (xs : List α) (lo hi : Option Int) : List α := (let (a, b, c) := sliceBounds lo hi (some (-1)) xs.length; sliceRange a b c).filterMap (xs[·]?)
theorem pick_vals {xs : List V} {its : List Value} (r : Vals xs its) : ∀ ks : List Nat, Vals (ks.filterMap (xs[·]?)) (ks.filterMap (its[·]?))
  | [] => .nil
  | k :: ks => by
    have ih := pick_vals r ks
    have hl := r.length
    rw [List.filterMap_cons, List.filterMap_cons]
    cases hx : xs[k]? with
    | none =>
      have : its[k]? = none := by
        rw [List.getElem?_eq_none_iff] at hx ⊢
        omega
      rw [this]
      exact ih
    | some x =>
      obtain ⟨u, hu, rv⟩ := r.get hx
      rw [hu]
      exact .cons rv ih
def rSlR (K : PySem.W.Frag) : V → Option Int → Option Int → Hp → VK → Prop := fun x lo hi H Q => ∃ a xs, x = .ref a ∧ SqL K H a xs ∧ (pickR xs lo hi).length ≤ xs.length ∧ ∀ p, H p = none → Q (.ref p) (upd H p (.lst (pickR xs lo hi)))
theorem pe_slR {X : Cx} {K : PySem.W.Frag} {e : Expr} {te : TE} {lo hi : Option Expr} {tl th : TO} {k : Nat} {p1 p2 p3 pos : Pos} (eK : X.K = K) (he : PE X e te) (hl : PO X lo tl) (hh : PO X hi th) :
    PE X (.Subscript e (.Slice lo hi (some (.UnaryOp .USub (.Constant (.int 1) k p1) p2)) p3) pos) (L2.tSl (rSlR K) te tl th) := by
  subst eK
  refine ⟨fun pins s σ H Q I h => ?_⟩
  have one : PO X (some (.UnaryOp .USub (.Constant (.int 1) k p1) p2)) (tPart (tUn (rU fun i => .int (-i)) (tC (.int 1)))) := po_some (pe_un un_neg pe_int)
  refine Subscript_ (thn (he.run pins s σ H _ I h) fun v s1 ⟨x, H1, I1, r1, q1⟩ => ?_)
  refine wpAny_Slice (thn (hl.run pins s1 σ H1 _ I1 q1) fun vl s2 ⟨l, H2, I2, pl, q2⟩ => thn (hh.run pins s2 σ H2 _ I2 q2) fun vu s3 ⟨u, H3, I3, pu, a, xs, ex, hx, hz1, q⟩ =>
    thn (one.run pins s3 σ H3 (fun o H4 => o = some (-1) ∧ H4 = H3) I3 ⟨1, rfl, -1, rfl, rfl, rfl⟩) fun vs s4 ⟨o, H4, I4, ps, eo, e4⟩ => ?_)
  subst eo e4 ex
  cases r1
  have I5 : Inv X pins σ H4 { s4 with heap := s4.heap.push { cls := .type "slice", data := .fields #[vl, vu, vs] } } := I4.kept (t' := s4.toks) fun _ _ z => Heap.get?_push_of_some _ z
  obtain ⟨its, r, ht, hz⟩ := I5.list hx
  have hlen := r.length
  have hsz : its.toArray.size ≤ sizeLine := by rw [List.size_toArray]; omega
  refine tail_any (ops := [.ref a, .ref s4.heap.objs.size]) ht.isList.typeIs (PySem.slot_list_getitem.lookup) (wpAny_getItem_list_slice ht.isList (Heap.IsSliceOf.new _ vl vu vs) pl pu ps (by decide) ?_ hsz) (by with_unfolding_all rfl)
  have hp : slicePick its.toArray l u (some (-1)) = (pickR its l u).toArray := by
    unfold slicePick pickR
    simp only [List.size_toArray]
    congr 1
    congr 1
    funext i
    simp
  rw [hp]
  have hv : Vals (pickR xs l u) (pickR its l u) := by
    unfold pickR
    rw [hlen]
    exact pick_vals r _
  exact ⟨.ref _, _, I5.laid (t' := s4.toks) (o := .lst (pickR xs l u)) (fun _ _ z => Heap.get?_push_of_some _ z) (Nat.le_refl _) ⟨Nat.le_trans hz1 hz, _, 0, hv, Heap.get?_push_size _ rfl⟩, rfl, q _ (I5.hok.fresh (Nat.le_refl _))⟩
theorem fmc {α β : Type} {f g : α → Option β} : ∀ {l : List α}, (∀ x, x ∈ l → f x = g x) → l.filterMap f = l.filterMap g
  | [], _ => rfl
  | x :: l, h => by
    rw [List.filterMap_cons, List.filterMap_cons, h x (by simp), fmc fun y m => h y (List.mem_cons_of_mem _ m)]
theorem fm_takeG {α : Type} (rs : List α) : ∀ n : Nat, (List.range n).filterMap (fun i => rs[i]?) = rs.take n
  | 0 => by simp
  | n + 1 => by
    rw [List.range_succ, List.filterMap_append, fm_takeG rs n, List.take_succ]
    cases h : rs[n]? <;> simp [h]
/-- xs[:0:-1] -/
theorem pickR_0 {α : Type} (xs : List α) : pickR xs none (some 0) = (xs.drop 1).reverse := by
  have e0 : pickR xs none (some 0) = (sliceRange ((xs.length : Int) - 1) 0 (-1)).filterMap (xs[·]?) := by
    unfold pickR
    have : sliceBounds none (some 0) (some (-1)) xs.length = ((xs.length : Int) - 1, 0, -1) ∨ xs.length = 0 := by
      rcases Nat.eq_zero_or_pos xs.length with h | h
      · exact .inr h
      · left
        unfold sliceBounds
        simp
        omega
    rcases this with h | h
    · rw [h]
    · have : xs = [] := List.eq_nil_of_length_eq_zero h
      subst this
      rfl
  rw [e0]
  have e1 : sliceRange ((xs.length : Int) - 1) 0 (-1) = (List.range (xs.length - 1)).map fun k => xs.length - 1 - k := by
    unfold sliceRange
    rw [if_neg (by decide)]
    have : (if (xs.length : Int) - 1 > 0 then ((xs.length : Int) - 1 - 0 - -1 - 1) / - -1 else 0).toNat = xs.length - 1 := by
      split
      · rw [show (- -1 : Int) = 1 from rfl, Int.ediv_one]
        omega
      · omega
    show (List.range (if (xs.length : Int) - 1 > 0 then ((xs.length : Int) - 1 - 0 - -1 - 1) / - -1 else 0).toNat).map _ = _
    rw [this]
    refine List.map_congr_left fun k hk => ?_
    have := List.mem_range.mp hk
    omega
  rw [e1]
  rw [List.filterMap_map]
  have e2 : ((List.range (xs.length - 1)).filterMap ((fun x => xs[x]?) ∘ fun k => xs.length - 1 - k)) = (List.range (xs.length - 1)).filterMap fun k => ((xs.drop 1).reverse)[k]? := by
    refine fmc fun k hk => ?_
    have hk := List.mem_range.mp hk
    show xs[xs.length - 1 - k]? = _
    rw [List.getElem?_reverse (by rw [List.length_drop]; omega), List.length_drop, List.getElem?_drop]
    congr 1
    omega
  rw [e2, fm_takeG, List.take_of_length_le (by simp)]
theorem g_slR0 {K : PySem.W.Frag} {H : Hp} {Q : VK} {a : Addr} {xs : List V} (h : SqL K H a xs) (q : ∀ p, H p = none → Q (.ref p) (upd H p (.lst (xs.drop 1).reverse))) : rSlR K (.ref a) none (some 0) H Q :=
  ⟨a, xs, rfl, h, by rw [pickR_0]; simp, by rw [pickR_0]; exact q⟩
end Fl

set_option Elab.async false
set_option linter.all false
set_option maxRecDepth 100000
set_option maxHeartbeats 4000000
/-! list(reversed(xs)), xs a list -/
namespace Fl
open PySem PySem.Spec PyProof.Rows L2
section
variable {prog : Program} {w : World} {A : Around} {E : Value → Shared → Prop} {s : Shared}
abbrev nilO : Obj := { cls := .type "list", data := .seq #[] }
/-- S.extend(it), S a new list, it a list's iterator from its end -/
theorem ext_rev {it l S : Addr} {items : Array Value} {c0 : Nat} {R : Result → Shared → Prop} (hh : A.handled = none) (hit : s.heap.IsRevIter it l ((items.size : Int) - 1)) (hl : s.heap.IsList l items) (hne : l ≠ it) (hn : items.size ≤ sizeLine)
    (hSf : S ∉ [it, l]) (hS : s.heap.get? S = some { cls := .type "list", data := .seq #[] c0 })
    (hR : ∀ s' acc' c', Moved [S, it] (fun a b => b = a) s s' → s'.heap.get? S = some { cls := .type "list", dict := none, data := .seq acc' c', slots := #[] } → ItemsOf (fun i v => items[items.size - 1 - i]? = some v) acc' items.size → R (.ok (.ret .none)) s') :
    wpAny (model prog w) A.in1 (Builtin.List.listExtendWith (.ref S) (.ref it) .none)
      (fun fin s' => match fin with | .done f => R (.ok f) s' | .again c' => c'.quiet = true ∧ codeAny (model prog w) A c' R s') (fun e s' => R (.error e) s') s := by
  have W := (Walks.listRev (prog := prog) (w := w) (A := A.in1) hh it l hne items).toS
  have T := hit.typeIs (s := s)
  have ne : S ≠ it := fun e => hSf (by rw [e]; exact List.mem_cons_self)
  have same : Builtin.List.listSameRef (.ref S) (.ref it) = false := by simp [Builtin.List.listSameRef, ne]
  unfold Builtin.List.listExtendWith
  refine wpAny_bind (wpAny_typeOf T ?_); rw [if_neg (by rw [same]; decide)]
  refine wpAny_bind (wpAny_pyIter_revIter hit ?_); refine wpAny_bind (wpAny_holding ?_)
  unfold Builtin.List.listLengthHint
  refine wpAny_bind (wpAny_specialOf T RT.nolen_lri ?_); show wpAny _ A.in1 (specialOf (Value.ref it) (Str.ofString "__length_hint__") >>= _) _ _ s
  refine wpAny_bind (wpAny_specialOf T RT.hint_lri ?_); generalize hid : ("list_reverseiterator.__length_hint__" : String) = id0
  wp_delta
  rw [show splitId id0 = some ("list_reverseiterator", "__length_hint__") from by subst hid; decide +kernel]; subst hid
  refine wpAny_bind (wpAny_isInstance (b := true) T (by rw [isSubtype_type]; kernel_rfl) (wpAny_pure ?_)); rw [if_neg (by decide)]
  have e0 : ((items.size : Nat) : Int) - 1 - ((0 : Nat) : Int) = (items.size : Int) - 1 := Int.sub_zero _
  refine wpAny_pure ⟨plainId_quiet F.plain_extend_loop _, codeAny_extend_loopS W hn _ hSf _ items.size 0 _ _ _ rfl (Nat.zero_le _) ⟨Nat.zero_le _, by rw [e0]; exact hit, hl⟩ hS (ItemsOf.nil _) hR⟩
theorem make_rev {it l : Addr} {items : Array Value} {Q : Value → Shared → Prop} (hh : A.handled = none) (hit : s.heap.IsRevIter it l ((items.size : Int) - 1)) (hl : s.heap.IsList l items) (hne : l ≠ it) (hn : items.size ≤ sizeLine)
    (hQ : ∀ s' acc' c', Moved [s.heap.objs.size, it] (fun a b => b = a) { s with heap := s.heap.push nilO } s' → s'.heap.get? s.heap.objs.size = some { cls := .type "list", dict := none, data := .seq acc' c', slots := #[] } →
      ItemsOf (fun i v => items[items.size - 1 - i]? = some v) acc' items.size → Q (.ref s.heap.objs.size) s') : wpAny (model prog w) A (call (.type "list") [.ref it]) Q E s := by
  obtain ⟨oi, hoi, _⟩ := id hit
  obtain ⟨ol, hol, _⟩ := id hl
  have n1 : s.heap.objs.size ≠ it := Nat.ne_of_gt (Heap.lt_size hoi)
  have n2 : s.heap.objs.size ≠ l := Nat.ne_of_gt (Heap.lt_size hol)
  refine callType_codes (Q₁ := fun obj s₁ => obj = .ref s.heap.objs.size ∧ s₁ = { s with heap := s.heap.push nilO }) F.called_list (F.typeCall_list_1 _) F.entry_list_init (code_list_new _ ⟨rfl, rfl⟩) fun obj s₁ ⟨e1, e2⟩ => ?_
  subst e1 e2
  have hS : (s.heap.push nilO).get? s.heap.objs.size = some nilO := Heap.get?_push_size _ rfl
  refine ⟨⟨_, hS, rfl⟩, F.args_list_init_2 _ _, ?_⟩
  show wpAny _ A.in1.in1 (do let old ← Builtin.List.listItems (.ref s.heap.objs.size); Builtin.List.listUpdate (.ref s.heap.objs.size) (fun _ => #[]); letGo old.toList.reverse; Builtin.List.listExtendWith (.ref s.heap.objs.size) (.ref it) .none) _ _ _
  unfold Builtin.List.listItems
  refine wpAny_bind (wpAny_bind (wpAny_seqItems hS rfl (wpAny_pure ?_)))
  all_goals first
    | (refine wpAny_bind (wpAny_updateSeq hS rfl (wpAny_bind (wpAny_letGo ?_)))
       have hS2 := Heap.get?_update_self (Obj.mapSeq (fun _ => (#[] : Array Value))) hS rfl
       have oth : ∀ b o, b ≠ s.heap.objs.size → s.heap.get? b = some o → ((s.heap.push nilO).update s.heap.objs.size (Obj.mapSeq (fun _ => (#[] : Array Value)))).get? b = some o := fun b o hb e => (Heap.get?_update_other _ _ (Ne.symm hb)).trans (Heap.get?_push_of_some _ e)
       refine ext_rev (A := A.in1) hh (hit.at fun o e => oth it o (Ne.symm n1) e) (hl.at fun o e => oth l o (Ne.symm n2) e) hne hn (by simp [n1, n2]) hS2 fun s' acc' c' hm hS' hacc => ?_
       refine ⟨rfl, hQ s' acc' c' (Moved.trans (G := fun a b => b = a) (fun a b c h k => k.trans h) ((Moved.refl (G := fun a b => b = a) fun _ => rfl).then_heap (Nat.le_refl _) fun b o hb e => ?_) hm) hS' hacc⟩
       exact (Heap.get?_update_other _ _ (fun z => hb (by rw [z]; exact List.mem_cons_self))).trans e)
end
/-- list(reversed(x)), x a list: a new list -/
def tListRev (K : PySem.W.Frag) (te : TE) : TE := fun σ H Q => te σ H fun v H1 => ∃ (a : Addr) (xs : List V), v = .ref a ∧ SqL K H1 a xs ∧ ∀ q, H1 q = none → Q (.ref q) (upd H1 q (.lst xs.reverse))
theorem pe_listRev {X : Cx} {K : PySem.W.Frag} {e : Expr} {te : TE} {p p2 pos pos2 : Pos} (eK : X.K = K) (hc : X.calm = true) (hg : Gl X "list") (hm : X.mg "list" = none) (hg2 : Gl X "reversed") (hm2 : X.mg "reversed" = none) (he : PE X e te)
    (hs : starEach [e] X.env = (false, eval e X.env) :: starEach [] X.env := by rfl)
    (hs2 : starEach [.Call (.Name "reversed" p2) [e] [] pos2] X.env = (false, eval (.Call (.Name "reversed" p2) [e] [] pos2) X.env) :: starEach [] X.env := by rfl) :
    PE X (.Call (.Name "list" p) [.Call (.Name "reversed" p2) [e] [] pos2] [] pos) (tListRev K te) := by
  subst eK
  refine ⟨fun pins s σ H Q I h => Call_ (ld_blt I hg hm boot_list (PyProof.Rows.callWith_type1 (args_cons (Call_ (ld_blt I hg2 hm2 PyProof.Rows.boot_reversed (PyProof.Rows.callWith_type1 (args_cons (thn (he.run pins s σ H _ I h) fun u s1 ⟨v, H1, I1, r1, a, xs, ev, hq, q⟩ => args_nil ?_) hs) hs rfl))) hs2) hs2 rfl))⟩
  subst ev
  obtain rfl : u = Value.ref a := r1
  obtain ⟨its, rv, pl, hz⟩ := I1.list hq
  have hl := pl.isList
  have hlen := rv.length
  obtain ⟨ol, hol, _⟩ := id hl
  refine call_reversed_list hl (args_nil ?_)
  have I2 : Inv X pins σ H1 { s1 with heap := s1.heap.push (revObj a ((its.toArray.size : Int) - 1)) } := I1.kept (t' := s1.toks) fun b o z => Heap.get?_push_of_some _ z
  obtain ⟨f0, f1, f2, f3, f4, f5⟩ := I1.fpOk (H' := H1) (b := s1.heap.objs.size) (Nat.le_refl _) (I1.hok.fresh (Nat.le_refl _))
  refine make_rev (s := { s1 with heap := s1.heap.push (revObj a ((its.toArray.size : Int) - 1)) }) (items := its.toArray) (I1.ok.hd hc) ⟨_, Heap.get?_push_size _ rfl, rfl, rfl⟩ (hl.push _) (Nat.ne_of_lt (Heap.lt_size hol)) (by rw [List.size_toArray]; omega) fun s' acc' c' hm hS hi => ?_
  rw [Moved.eq_with hm]
  have new : H1 (s1.heap.objs.size + 1) = none := I1.hok.fresh (Nat.le_succ _)
  have at1 : ({ s1 with heap := s1.heap.push (revObj a ((its.toArray.size : Int) - 1)) } : Shared).heap.objs.size = s1.heap.objs.size + 1 := by simp [Heap.push]
  rw [at1] at hS hm ⊢
  have keep : ∀ b o, b ≠ s1.heap.objs.size → b ≠ s1.heap.objs.size + 1 → ((s1.heap.push (revObj a ((its.toArray.size : Int) - 1))).push nilO).get? b = some o → s'.heap.get? b = some o := fun b o n n1 z => hm.heap b o (by simp [n, n1]) z
  have I3 : Inv X pins σ (upd H1 (s1.heap.objs.size + 1) (.lst [])) { s1 with heap := (s1.heap.push (revObj a ((its.toArray.size : Int) - 1))).push nilO } :=
    I2.laid (t' := s1.toks) (fun b o z => Heap.get?_push_of_some _ z) (Nat.le_of_eq at1) ⟨Nat.zero_le _, [], 0, .nil, by rw [← at1]; exact Heap.get?_push_size _ rfl⟩
  have n2 : s1.heap.objs.size ≠ s1.heap.objs.size + 1 := Nat.ne_of_lt (Nat.lt_succ_self _)
  have mid : (s'.heap.update (s1.heap.objs.size + 1) (fun _ => nilO)).get? (s1.heap.objs.size + 1) = some nilO := Heap.get?_update_self _ hS rfl
  have I4 : Inv X pins σ (upd H1 (s1.heap.objs.size + 1) (.lst [])) { s1 with heap := s'.heap.update (s1.heap.objs.size + 1) (fun _ => nilO), toks := s'.toks } := by
    refine I3.turned (t' := s'.toks) (fun b o n z => ?_) (by rw [upd_ne n2]; exact I1.hok.fresh (Nat.le_refl _)) f1 f3 f4 f5
    by_cases e : b = s1.heap.objs.size + 1
    · subst e
      rw [← at1] at z
      rw [Heap.get?_push_size _ rfl] at z
      cases z
      exact mid
    · exact (Heap.get?_update_other _ _ (Ne.symm e)).trans (keep b o n e z)
  have I5 : Inv X pins σ (upd (upd H1 (s1.heap.objs.size + 1) (.lst [])) (s1.heap.objs.size + 1) (.lst xs.reverse)) { s1 with heap := s'.heap, toks := s'.toks } :=
    I4.write (by rw [upd_same]; trivial) (.inl rfl) (fun b o n z => by rw [← z]; exact (Heap.get?_update_other _ _ (Ne.symm n)).symm) ⟨_, hS⟩ ⟨by rw [List.length_reverse]; exact hz, acc'.toList, c', RT.vals_rev rv hi, by rw [hS]⟩
  refine ⟨.ref _, _, I5, rfl, ?_⟩
  rw [upd_upd]
  exact q _ new
end Fl

set_option Elab.async false
set_option linter.all false
set_option maxRecDepth 100000
set_option maxHeartbeats 4000000
/-! turning sums, reversed contours: the mathematics -/
namespace Fl
open PySem PySem.Spec PyProof.Rows L2

def cr (p q : Pt) : Int := p.1 * q.2.1 - q.1 * p.2.1
/-- over a path -/
def pa : List Pt → Int
  | p :: q :: l => cr p q + pa (q :: l)
  | _ => 0
def tc (c : List Pt) : Int := ((c.zip (beg c 1)).map fun z => cr z.1 z.2).sum
def ts (o : List (List Pt)) : Int := (o.map tc).sum
def rv (c : List Pt) : List Pt := c.take 1 ++ (c.drop 1).reverse
theorem pa_app : ∀ (u : List Pt) (x : Pt) (v : List Pt), pa (u ++ x :: v) = pa (u ++ [x]) + pa (x :: v)
  | [], x, v => by simp [pa]
  | [y], x, v => by simp [pa]
  | y :: z :: u, x, v => by
    have ih := pa_app (z :: u) x v
    show cr y z + pa (z :: u ++ x :: v) = cr y z + pa (z :: u ++ [x]) + pa (x :: v)
    rw [ih, Int.add_assoc]
theorem pa_rev : ∀ l : List Pt, pa l.reverse = -pa l
  | [] => rfl
  | [_] => rfl
  | p :: q :: l => by
    have ih := pa_rev (q :: l)
    rw [List.reverse_cons] at ih
    rw [List.reverse_cons, List.reverse_cons, List.append_assoc]
    show pa (l.reverse ++ q :: [p]) = -(cr p q + pa (q :: l))
    rw [pa_app, ih]
    show -pa (q :: l) + (cr q p + 0) = _
    unfold cr
    omega
theorem tc_pa (p : Pt) (l : List Pt) : tc (p :: l) = pa (p :: l ++ [p]) := by
  have key : ∀ (l : List Pt) (p x : Pt), (((p :: l).zip (l ++ [x])).map fun z => cr z.1 z.2).sum = pa (p :: l ++ [x]) := by
    intro l
    induction l with
    | nil => intro p x; simp [pa]
    | cons q l ih =>
      intro p x
      have := ih q x
      show (cr p q :: ((q :: l).zip (l ++ [x])).map fun z => cr z.1 z.2).sum = cr p q + pa (q :: l ++ [x])
      rw [List.sum_cons, this]
  exact key l p p
theorem tc_rv (c : List Pt) : tc (rv c) = -tc c := by
  cases c with
  | nil => rfl
  | cons p l =>
    show tc (p :: l.reverse) = _
    rw [tc_pa, tc_pa, ← pa_rev]
    congr 1
    simp
theorem ts_rv (o : List (List Pt)) : ts (o.map rv) = -ts o := by
  unfold ts
  induction o with
  | nil => rfl
  | cons c o ih =>
    rw [List.map_cons, List.map_cons, List.sum_cons, List.map_cons, List.sum_cons, ih, tc_rv]
    omega
theorem rv_rv (c : List Pt) : rv (rv c) = c := by
  cases c with
  | nil => rfl
  | cons p l =>
    show p :: l.reverse.reverse = _
    rw [List.reverse_reverse]
theorem rv_len (c : List Pt) : (rv c).length = c.length := by
  cases c with
  | nil => rfl
  | cons p l =>
    show (p :: l.reverse).length = _
    simp
theorem rv_mem {c : List Pt} {x : Pt} : x ∈ rv c ↔ x ∈ c := by
  cases c with
  | nil => rfl
  | cons p l =>
    show x ∈ p :: l.reverse ↔ _
    simp
/-! turn by turn -/
def tz (c : List Pt) (i : Nat) : Int := (((c.zip (beg c 1)).take i).map fun z => cr z.1 z.2).sum
theorem tz_zero (c : List Pt) : tz c 0 = 0 := rfl
theorem tz_all (c : List Pt) : tz c c.length = tc c := by
  unfold tz tc
  rw [List.take_of_length_le (by rw [List.length_zip, beg_len]; omega)]
theorem beg1_get {c : List Pt} {i : Nat} (h : i < c.length) : (beg c 1)[i]? = c[(i + 1) % c.length]? := by
  unfold beg
  rcases Nat.lt_or_ge (i + 1) c.length with g | g
  · rw [Nat.mod_eq_of_lt g, List.getElem?_append_left (by rw [List.length_drop]; omega), List.getElem?_drop, Nat.add_comm]
  · have e : i + 1 = c.length := by omega
    rw [e, Nat.mod_self, List.getElem?_append_right (by rw [List.length_drop]; omega), List.length_drop]
    have : i - (c.length - 1) = 0 := by omega
    rw [this]
    cases c with
    | nil => cases h
    | cons p l => rfl
theorem tz_succ {c : List Pt} {i : Nat} {p q : Pt} (hp : c[i]? = some p) (hq : (beg c 1)[i]? = some q) : tz c (i + 1) = tz c i + cr p q := by
  unfold tz
  rw [take_zip hp hq, List.map_append, List.sum_append]
  simp
theorem cr_big {p q : Pt} (hp : PtIn (10 ^ 6) p) (hq : PtIn (10 ^ 6) q) : (cr p q).natAbs ≤ 2 * 10 ^ 12 ∧ (p.1 * q.2.1).natAbs ≤ 10 ^ 12 ∧ (q.1 * p.2.1).natAbs ≤ 10 ^ 12 := by
  obtain ⟨a1, a2, a3, a4⟩ := hp
  obtain ⟨b1, b2, b3, b4⟩ := hq
  have h1 : (p.1 * q.2.1).natAbs ≤ 10 ^ 12 := by
    rw [Int.natAbs_mul]
    exact Nat.le_trans (Nat.mul_le_mul (show p.1.natAbs ≤ 10 ^ 6 by omega) (show q.2.1.natAbs ≤ 10 ^ 6 by omega)) (by decide)
  have h2 : (q.1 * p.2.1).natAbs ≤ 10 ^ 12 := by
    rw [Int.natAbs_mul]
    exact Nat.le_trans (Nat.mul_le_mul (show q.1.natAbs ≤ 10 ^ 6 by omega) (show p.2.1.natAbs ≤ 10 ^ 6 by omega)) (by decide)
  refine ⟨?_, h1, h2⟩
  unfold cr
  omega
/-! how data is shown -/
structure Sw (k W : Nat) (d : PyData) : Prop where
  sh : d.showable = true
  nd : d.hasDict = false
  lv : d.leavesShort 13 = true
  dp : d.depth ≤ k
  wt : d.weight ≤ W
theorem Sw.shw {k W : Nat} {d : PyData} (h : Sw k W d) (hk : k ≤ 40) (hW : W ≤ 2 ^ 20) : Shw d := ⟨h.sh, h.nd, Nat.le_trans h.dp hk, h.lv, Nat.le_trans h.wt hW⟩
theorem Sw.mono {k W j U : Nat} {d : PyData} (h : Sw k W d) (hk : k ≤ j) (hW : W ≤ U) : Sw j U d := ⟨h.sh, h.nd, h.lv, Nat.le_trans h.dp hk, Nat.le_trans h.wt hW⟩
theorem Sw.all {k W : Nat} : ∀ ds : List PyData, (∀ d, d ∈ ds → Sw k W d) → PyData.showableAll ds = true ∧ PyData.hasDictAll ds = false ∧ PyData.leavesShortAll 13 ds = true ∧ PyData.depthAll ds ≤ k ∧ PyData.weightAll ds ≤ (W + 1) * ds.length
  | [], _ => by simp [PyData.showableAll, PyData.hasDictAll, PyData.leavesShortAll, PyData.depthAll, PyData.weightAll]
  | d :: ds, h => by
    obtain ⟨a, b, c, e, f⟩ := h d (by simp)
    obtain ⟨a2, b2, c2, e2, f2⟩ := Sw.all ds fun e m => h e (List.mem_cons_of_mem _ m)
    refine ⟨by simp [PyData.showableAll, a, a2], by simp [PyData.hasDictAll, b, b2], by simp [PyData.leavesShortAll, c, c2], ?_, ?_⟩
    · simp only [PyData.depthAll]
      omega
    · simp only [PyData.weightAll, List.length_cons, Nat.mul_succ]
      omega
theorem Sw.lst {k W : Nat} {ds : List PyData} (h : ∀ d, d ∈ ds → Sw k W d) : Sw (k + 1) ((W + 1) * ds.length) (.list ds) := by
  obtain ⟨a, b, c, e, f⟩ := Sw.all ds h
  exact ⟨by simpa [PyData.showable] using a, by simpa [PyData.hasDict] using b, by simpa [PyData.leavesShort] using c, by simp only [PyData.depth]; omega, by simp only [PyData.weight]; omega⟩
theorem Sw.tup {k W : Nat} {ds : List PyData} (h : ∀ d, d ∈ ds → Sw k W d) : Sw (k + 1) ((W + 1) * ds.length) (.tuple ds) := by
  obtain ⟨a, b, c, e, f⟩ := Sw.all ds h
  exact ⟨by simpa [PyData.showable] using a, by simpa [PyData.hasDict] using b, by simpa [PyData.leavesShort] using c, by simp only [PyData.depth]; omega, by simp only [PyData.weight]; omega⟩
theorem Sw.int {i : Int} (h : i.natAbs < 10 ^ 12) : Sw 0 41 (.int i) := by
  have h2 : i.natAbs < 2 ^ 41 := Nat.lt_of_lt_of_le h (by decide)
  have l : i.natAbs.log2 ≤ 40 := by
    rcases Nat.eq_zero_or_pos i.natAbs with z | z
    · rw [z]; decide
    · have := (Nat.log2_lt (k := 41) (by omega)).mpr h2
      omega
  refine ⟨?_, rfl, ?_, Nat.le_refl _, ?_⟩
  · simp only [PyData.showable, decide_eq_true_eq]
    omega
  · simp only [PyData.leavesShort, decide_eq_true_eq]
    exact PyData.shown_int_le h
  · simp only [PyData.weight]
    split <;> omega
theorem Sw.bl {b : Bool} : Sw 0 0 (.bool b) := ⟨rfl, rfl, rfl, Nat.le_refl _, Nat.le_refl _⟩
theorem Sw.int20 {i : Int} (h : i.natAbs ≤ 10 ^ 6) : Sw 0 20 (.int i) := by
  obtain ⟨a, b, c, d, _⟩ := Sw.int (i := i) (by omega)
  refine ⟨a, b, c, d, ?_⟩
  have l : i.natAbs.log2 ≤ 19 := by
    rcases Nat.eq_zero_or_pos i.natAbs with z | z
    · rw [z]; decide
    · have := (Nat.log2_lt (k := 20) (by omega)).mpr (Nat.lt_of_le_of_lt h (by decide))
      omega
  simp only [PyData.weight]
  split <;> omega
theorem sw_pt {p : Pt} (h : PtIn (10 ^ 6) p) : Sw 1 63 (ptD p) := by
  obtain ⟨h1, h2, h3, h4⟩ := h
  refine (Sw.tup (k := 0) (W := 20) fun d m => ?_).mono (Nat.le_refl _) (by show (20 + 1) * 3 ≤ 63; decide)
  simp only [List.mem_cons, List.not_mem_nil, or_false] at m
  rcases m with rfl | rfl | rfl
  · exact Sw.int20 (by omega)
  · exact Sw.int20 (by omega)
  · exact Sw.bl.mono (Nat.le_refl _) (by decide)
theorem sw_ct {c : List Pt} {n : Nat} (h : ∀ p, p ∈ c → PtIn (10 ^ 6) p) (hn : c.length ≤ n) : Sw 2 (64 * n) (ctD c) := by
  refine (Sw.lst (k := 1) (W := 63) fun d m => ?_).mono (Nat.le_refl _) (by rw [List.length_map]; omega)
  obtain ⟨p, hp, rfl⟩ := List.mem_map.mp m
  exact sw_pt (h p hp)
theorem sw_ou {o : List (List Pt)} {n : Nat} (h : ∀ c, c ∈ o → c.length ≤ n ∧ ∀ p, p ∈ c → PtIn (10 ^ 6) p) : Sw 3 ((64 * n + 1) * o.length) (ouD o) := by
  refine (Sw.lst (k := 2) (W := 64 * n) fun d m => ?_).mono (Nat.le_refl _) (by rw [List.length_map]; exact Nat.le_refl _)
  obtain ⟨c, hc, rfl⟩ := List.mem_map.mp m
  exact sw_ct (h c hc).2 (h c hc).1
end Fl
namespace Fl
open PySem PySem.Spec PyProof.Rows L2
def fTs (ds : List PyData) (d : PyData) : Prop := ∃ o : List (List Pt), ds = [ouD o] ∧ o.length ≤ 100 ∧ (∀ c, c ∈ o → c.length ≤ 100 ∧ ∀ p, p ∈ c → PtIn (10 ^ 6) p) ∧ d = .int (ts o)
def fRv (ds : List PyData) (d : PyData) : Prop := ∃ o : List (List Pt), ds = [ouD o] ∧ o.length ≤ 100 ∧ (∀ c, c ∈ o → c.length ≤ 100) ∧ d = ouD (o.map rv)
theorem ts_take {o : List (List Pt)} {i : Nat} {c : List Pt} (h : o[i]? = some c) : ((o.take (i + 1)).map tc).sum = ((o.take i).map tc).sum + tc c := by
  rw [List.take_succ, h, List.map_append, List.sum_append]
  simp
theorem md_cast (i n : Nat) : ((i : Int) + 1) % (n : Int) = (((i + 1) % n : Nat) : Int) := by
  rw [Int.natCast_emod]
  rfl
theorem sz12 {n : Int} (h : n.natAbs ≤ 10 ^ 12) : n.natAbs < 2 ^ 4000 := Nat.lt_of_le_of_lt h (by decide +kernel)
theorem sz6 {n : Int} (h1 : -(10 ^ 6) ≤ n) (h2 : n ≤ 10 ^ 6) : n.natAbs < 2 ^ 4000 := sz12 (by omega)
end Fl
namespace Fl
open PySem PySem.Spec PyProof.Rows L2
section
variable {K : PySem.W.Frag} {H : Hp} {Q : VK} {a : Addr} {xs : List V} {te : TE} {σ : L2.St}
theorem g_lrev (h : te σ H fun v H1 => ∃ (a : Addr) (xs : List V), v = .ref a ∧ SqL K H1 a xs ∧ ∀ q, H1 q = none → Q (.ref q) (upd H1 q (.lst xs.reverse))) : tListRev K te σ H Q := h
theorem g_lrev2 {Q : Addr → List V → Prop} (h : SqL K H a xs) (q : Q a xs) : ∃ (b : Addr) (ys : List V), V.ref a = .ref b ∧ SqL K H b ys ∧ Q b ys := ⟨a, xs, rfl, h, q⟩
theorem g_eqS {x y : Str} (q : Q (.bl (decide (x = y))) H) : rEq (.str x) (.str y) H Q := ⟨rfl, by
  have e : decide (V.str x = V.str y) = decide (x = y) := by simp
  rw [e]; exact q⟩
end
end Fl

set_option Elab.async false
set_option linter.all false
set_option maxRecDepth 100000
set_option maxHeartbeats 4000000
/-! proper outlines -/
namespace Fl
open PySem PySem.Spec PyProof.Rows L2
def cnt (o : List (List Pt)) : Int := (o.map fun c => (c.length : Int)).sum
def okP (p : Pt) : Bool := decide (-16384 ≤ p.1 ∧ p.1 ≤ 16384 ∧ -16384 ≤ p.2.1 ∧ p.2.1 ≤ 16384)
def okC (c : List Pt) : Bool := decide (2 ≤ c.length) && c.all okP
def prp (o : List (List Pt)) : Bool := (decide (o.length ≤ 40) && decide (cnt o ≤ 200)) && o.all okC
def fCt (ds : List PyData) (d : PyData) : Prop := ∃ o : List (List Pt), ds = [ouD o] ∧ o.length ≤ 100 ∧ d = .int (cnt o)
def fPr (ds : List PyData) (d : PyData) : Prop := ∃ o : List (List Pt), ds = [ouD o] ∧ o.length ≤ 100 ∧ (∀ c, c ∈ o → c.length ≤ 900) ∧ d = .bool (prp o)
theorem cnt_flat (o : List (List Pt)) : cnt o = (o.flatten.length : Int) := by
  unfold cnt
  induction o with
  | nil => rfl
  | cons c o ih =>
    rw [List.map_cons, List.sum_cons, ih, List.flatten_cons, List.length_append]
    omega
theorem prp_many {o : List (List Pt)} (h : ¬ ((o.length : Int) ≤ 40)) : prp o = false := by
  unfold prp
  rw [decide_eq_false (by omega), Bool.false_and, Bool.false_and]
theorem prp_cnt {o : List (List Pt)} (h : ¬ (cnt o ≤ 200)) : prp o = false := by
  unfold prp
  rw [decide_eq_false h, Bool.and_false, Bool.false_and]
theorem prp_c {o : List (List Pt)} {c : List Pt} (m : c ∈ o) (h : okC c = false) : prp o = false := by
  unfold prp
  have : o.all okC = false := by
    rw [List.all_eq_false]
    exact ⟨c, m, by rw [h]; exact Bool.false_ne_true⟩
  rw [this, Bool.and_false]
theorem prp_true {o : List (List Pt)} (h1 : (o.length : Int) ≤ 40) (h2 : cnt o ≤ 200) (h3 : ∀ c, c ∈ o → okC c = true) : prp o = true := by
  unfold prp
  rw [decide_eq_true (by omega), decide_eq_true h2, List.all_eq_true.mpr h3]
  rfl
theorem okC_few {c : List Pt} (h : (c.length : Int) < 2) : okC c = false := by
  unfold okC
  rw [decide_eq_false (by omega), Bool.false_and]
theorem okC_p {c : List Pt} {p : Pt} (m : p ∈ c) (h : okP p = false) : okC c = false := by
  unfold okC
  have : c.all okP = false := by
    rw [List.all_eq_false]
    exact ⟨p, m, by rw [h]; exact Bool.false_ne_true⟩
  rw [this, Bool.and_false]
theorem okC_true {c : List Pt} (h1 : ¬ (c.length : Int) < 2) (h3 : ∀ p, p ∈ c → okP p = true) : okC c = true := by
  unfold okC
  rw [decide_eq_true (by omega), List.all_eq_true.mpr h3]
  rfl
theorem okP_f {p : Pt} (h : ¬ (-16384 ≤ p.1 ∧ p.1 ≤ 16384 ∧ -16384 ≤ p.2.1 ∧ p.2.1 ≤ 16384)) : okP p = false := decide_eq_false h
theorem okP_t {p : Pt} (h : -16384 ≤ p.1 ∧ p.1 ≤ 16384 ∧ -16384 ≤ p.2.1 ∧ p.2.1 ≤ 16384) : okP p = true := decide_eq_true h
theorem take_mem {α : Type} {l : List α} {P : α → Prop} {i : Nat} {x : α} (hx : l[i]? = some x) (h : ∀ y, y ∈ l.take i → P y) (k : P x) : ∀ y, y ∈ l.take (i + 1) → P y := by
  intro y m
  rw [List.take_succ, hx] at m
  rcases List.mem_append.mp m with m | m
  · exact h y m
  · rw [show y = x by simpa using m]
    exact k
/-- a changed outline -/
structure ChIn (o : List (List Pt)) : Prop where
  len : o.length ≤ 45
  cs : ∀ c, c ∈ o → c.length ≤ 300 ∧ ∀ p, p ∈ c → PtIn (10 ^ 6) p
  fl : o.flatten.length ≤ 400
def spCh : Sp := fun vs H Q _ => ∃ (d s : Addr) (ns : List Int) (a : V) (o : List (List Pt)), vs = [.ref d, a] ∧ Dk d s ns H ∧ Dq [d] H a (ouD o) ∧ OuIn 2 400 o ∧
  ∀ t H' o', Dk d s ns H' → Dq [d] H' t (ouD o') → ChIn o' → Q t H'
theorem flat_len {n : Nat} : ∀ {o : List (List Pt)}, (∀ c, c ∈ o → c.length ≤ n) → o.flatten.length ≤ n * o.length
  | [], _ => Nat.zero_le _
  | c :: o, h => by
    have h1 := h c (by simp)
    have h2 := flat_len (o := o) fun x m => h x (List.mem_cons_of_mem _ m)
    rw [List.flatten_cons, List.length_append, List.length_cons, Nat.mul_succ]
    omega
theorem OuIn.ch {o : List (List Pt)} (h : OuIn 2 400 o) : ChIn o := by
  have h1 := h.len
  refine ⟨by omega, fun c m => ?_, ?_⟩
  · obtain ⟨g1, g2, g3⟩ := h.cs c m
    refine ⟨by omega, fun p mp => ?_⟩
    obtain ⟨g1, g2, g3, g4⟩ := g3 p mp
    exact ⟨by omega, by omega, by omega, by omega⟩
  · have := flat_len (n := 7) fun c m => (h.cs c m).2.1
    omega
theorem ChIn.app {o u : List (List Pt)} (h : OuIn 2 400 o) (h1 : u.length ≤ 42) (h2 : ∀ c, c ∈ u → c.length ≤ 300 ∧ ∀ p, p ∈ c → PtIn (10 ^ 6) p) (h3 : u.flatten.length ≤ 300) : ChIn (o ++ u) := by
  obtain ⟨a, b, c⟩ := h.ch
  have h0 := h.len
  have := flat_len (n := 7) fun c m => (h.cs c m).2.1
  refine ⟨by rw [List.length_append]; omega, fun c m => ?_, by rw [List.flatten_append, List.length_append]; omega⟩
  rcases List.mem_append.mp m with m | m
  · exact b c m
  · exact h2 c m
theorem ChIn.pre {o : List (List Pt)} (h : OuIn 2 400 o) : ChIn ([] :: o) := by
  obtain ⟨a, b, c⟩ := h.ch
  have h0 := h.len
  refine ⟨by rw [List.length_cons]; omega, fun c m => ?_, by simpa using c⟩
  rcases List.mem_cons.mp m with rfl | m
  · exact ⟨by simp, fun _ m => nomatch m⟩
  · exact b c m
theorem PtIn.big {p : Pt} (h : PtIn 400 p) : PtIn (10 ^ 6) p := by
  obtain ⟨g1, g2, g3, g4⟩ := h
  exact ⟨by omega, by omega, by omega, by omega⟩
/-- same(x, y), of data at a depth of up to one -/
def spSm12 : Sp := fun vs H Q E => spSm1 vs H Q E ∨ spSm2 vs H Q E
theorem sh_tu {ds : List PyData} {n : Nat} (h : ∀ d, d ∈ ds → d.canLay0 = true ∧ d.depth ≤ n) (hn : n < 63) : (PyData.list ds).canLay0 = true ∧ (PyData.list ds).depth ≤ n + 1 := by
  have h1 := canLay_all (fun d => d.canLay0 = true) (fun _ h => h) ds (fun d m => (h d m).1)
  have h2 := depth_all n ds (fun d m => (h d m).2)
  refine ⟨by simp [PyData.canLay0, h1], ?_⟩
  simp only [PyData.depth]
  omega
theorem pt_lay (p : Pt) : (ptD p).canLay0 = true ∧ (ptD p).depth ≤ 1 := by
  unfold ptD
  simp [PyData.canLay0, PyData.canLayAll0, PyData.depth, PyData.depthAll]
theorem sh_ct (c : List Pt) : SeqAt.shaped (ctD c) = true := sh_list (n := 1) (fun d m => by
  obtain ⟨p, _, rfl⟩ := List.mem_map.mp m
  exact pt_lay p) (by decide)
theorem sh_nilL : SeqAt.shaped (.list []) = true := sh_list (n := 0) (fun d m => nomatch m) (by decide)
/-- a list of data is the empty list just if it has no item -/
theorem eqv_nil (ds : List PyData) : PyData.eqv (.list ds) (.list []) = ds.isEmpty := by
  cases ds with
  | nil => exact eqv_self sh_nilL
  | cons d ds => rfl
end Fl
namespace Fl
open PySem PySem.Spec PyProof.Rows L2
theorem fm_getD {β : Type} (f : Pt → Option β) : ∀ c : List Pt, (List.range c.length).filterMap (fun j => f (c.getD j p0)) = c.filterMap f
  | [] => rfl
  | p :: c => by
    rw [List.length_cons, List.range_succ_eq_map, List.filterMap_cons, List.filterMap_cons, List.filterMap_map]
    have ih := fm_getD f c
    have e : (List.range c.length).filterMap ((fun j => f ((p :: c).getD j p0)) ∘ Nat.succ) = c.filterMap f := ih
    rw [e]
    rfl
def bad (c : List Pt) : List PyData := c.filterMap fun p => if okP p = true then none else some (ptD p)
theorem bad_fm (c : List Pt) : (List.range c.length).filterMap (fun j => if okP (c.getD j p0) = true then none else some (ptD (c.getD j p0))) = bad c := fm_getD (fun p => if okP p = true then none else some (ptD p)) c
theorem bad_sh (c : List Pt) : SeqAt.shaped (.list (bad c)) = true := sh_list (n := 1) (fun d m => by
  obtain ⟨p, _, h⟩ := List.mem_filterMap.mp m
  split at h
  · cases h
  · cases h
    exact pt_lay p) (by decide)
theorem bad_nil {c : List Pt} (h : (bad c).isEmpty = true) : ∀ p, p ∈ c → okP p = true := by
  intro p m
  cases hp : okP p with
  | true => rfl
  | false =>
    have : ptD p ∈ bad c := List.mem_filterMap.mpr ⟨p, m, by rw [hp]; rfl⟩
    rw [List.isEmpty_iff.mp h] at this
    cases this
theorem bad_one {c : List Pt} (h : (bad c).isEmpty = false) : okC c = false := by
  cases hb : bad c with
  | nil => rw [hb] at h; cases h
  | cons d ds =>
    have m : d ∈ bad c := by rw [hb]; simp
    obtain ⟨p, mp, e⟩ := List.mem_filterMap.mp m
    split at e
    · cases e
    · rename_i hk
      exact okC_p mp (by simpa using hk)
theorem g_iteNB {b : Bool} {A B : Prop} (h1 : b = false → A) (h2 : b = true → B) : if (!b) = true then A else B := by
  cases b with
  | true => rw [if_neg (by decide)]; exact h2 rfl
  | false => rw [if_pos (by decide)]; exact h1 rfl
end Fl
namespace Fl
open PySem PySem.Spec PyProof.Rows L2
theorem cat_ou {S : List Addr} {H : Hp} {xs ys : List V} {o u : List (List Pt)} (h : DqA S H xs (o.map ctD)) (k : DqA S H ys (u.map ctD)) : DqA S H (xs ++ ys) ((o ++ u).map ctD) := by
  rw [List.map_append]
  exact h.app k
theorem rep_fm {α β : Type} (x : β) : ∀ l : List α, l.filterMap (fun _ => some x) = List.replicate l.length x
  | [] => rfl
  | _ :: l => by
    rw [List.filterMap_cons, rep_fm x l]
    rfl
theorem far_at {v : Int} (h0 : 0 ≤ v) (h1 : v < 4) : ∃ f : Int, atI [V.int 16384, V.int (-16384), V.int 16385, V.int (-16385)] v = some (.int f) ∧ -16385 ≤ f ∧ f ≤ 16385 := by
  rcases (by omega : v = 0 ∨ v = 1 ∨ v = 2 ∨ v = 3) with rfl | rfl | rfl | rfl
  · exact ⟨_, rfl, by decide, by decide⟩
  · exact ⟨_, rfl, by decide, by decide⟩
  · exact ⟨_, rfl, by decide, by decide⟩
  · exact ⟨_, rfl, by decide, by decide⟩
theorem flat_rep {α : Type} (x : List α) : ∀ n : Nat, (List.replicate n x).flatten.length = n * x.length
  | 0 => by simp
  | n + 1 => by rw [List.replicate_succ, List.flatten_cons, List.length_append, flat_rep x n, Nat.succ_mul, Nat.add_comm]
end Fl

set_option Elab.async false
set_option linter.all false
set_option maxRecDepth 100000
set_option maxHeartbeats 4000000
/-! the line of a contour by its ring and its start -/
namespace Fl
open PySem PySem.Spec PyProof.Rows L2
def wk (c : List Pt) (i : Nat) : List Pt := ((c.zip (beg c 1)).take i).flatMap fun z => w1 z.1 z.2
theorem wk_all (c : List Pt) : wk c c.length = wm c := by
  unfold wk
  rw [List.take_of_length_le (by rw [List.length_zip, beg_len]; omega)]
  exact wz_wm c
theorem wk_succ {c : List Pt} {i : Nat} {p q : Pt} (hp : c[i]? = some p) (hq : (beg c 1)[i]? = some q) : wk c (i + 1) = wk c i ++ w1 p q := by
  unfold wk
  rw [take_zip hp hq, List.flatMap_append]
  simp
theorem wk_len {c : List Pt} : ∀ i : Nat, (wk c i).length ≤ 2 * i
  | 0 => Nat.le_refl _
  | i + 1 => by
    have ih := wk_len (c := c) i
    rcases Nat.lt_or_ge i c.length with h | h
    · obtain ⟨p, hp⟩ : ∃ p, c[i]? = some p := ⟨_, List.getElem?_eq_getElem h⟩
      obtain ⟨q, hq⟩ : ∃ q, (beg c 1)[i]? = some q := ⟨_, List.getElem?_eq_getElem (by rw [beg_len]; exact h)⟩
      rw [wk_succ hp hq, List.length_append]
      have := (w1_len p q).2
      omega
    · have e : wk c (i + 1) = wk c i := by
        unfold wk
        rw [List.take_of_length_le (by rw [List.length_zip, beg_len]; omega), List.take_of_length_le (by rw [List.length_zip, beg_len]; omega)]
      rw [e]
      omega
def stOf (c : List Pt) : Int := match ps c with
  | [] => ((wm c).length : Int) - 1
  | k :: _ => ((wk c k).length : Int)
theorem wk_wp {u : List Pt} {p : Pt} {v : List Pt} : wk (u ++ p :: v) u.length = wp u p := by
  cases u with
  | nil => rfl
  | cons x u =>
    have e : (x :: u ++ p :: v).zip (beg (x :: u ++ p :: v) 1) = (x :: u).zip (u ++ [p]) ++ (p :: v).zip (v ++ [x]) := by
      have e2 : beg (x :: u ++ p :: v) 1 = (u ++ [p]) ++ (v ++ [x]) := by
        unfold beg
        simp
      rw [e2]
      exact List.zip_append (by simp)
    unfold wk
    rw [e, List.take_append_of_le_length (by simp), List.take_of_length_le (by simp)]
    exact wz_wp u x p
theorem beg_ro {c : List Pt} (n : c ≠ []) : ∃ k : Nat, stOf c = (k : Int) ∧ k ≤ (wm c).length ∧ beg (wm c) k = ro c := by
  have hl := (wm_len c).1
  have hc : 0 < c.length := List.length_pos_iff.mpr n
  unfold stOf ro
  cases hp : ps c with
  | nil =>
    refine ⟨(wm c).length - 1, by show ((wm c).length : Int) - 1 = _; omega, by omega, ?_⟩
    unfold beg
    rw [List.dropLast_eq_take]
  | cons k l =>
    have hk : k < c.length := ps_lt (by rw [hp]; simp)
    obtain ⟨u, p, v, rfl, rfl⟩ : ∃ (u : List Pt) (p : Pt) (v : List Pt), c = u ++ p :: v ∧ k = u.length := by
      refine ⟨c.take k, c[k], c.drop (k + 1), ?_, ?_⟩
      · rw [List.getElem_cons_drop, List.take_append_drop]
      · rw [List.length_take]; omega
    refine ⟨(wk (u ++ p :: v) u.length).length, rfl, ?_, ?_⟩
    · rw [wk_wp]
      cases u with
      | nil => exact Nat.zero_le _
      | cons x u =>
        have e1 : wm (x :: u ++ p :: v) = wp (x :: u) p ++ wp (p :: v) x := wp_app (x :: u) p v x
        rw [e1, List.length_append]
        omega
    · show beg (wm (u ++ p :: v)) (wk (u ++ p :: v) u.length).length = wm (beg (u ++ p :: v) u.length)
      rw [wk_wp]
      have e0 : beg (u ++ p :: v) u.length = p :: v ++ u := by
        unfold beg
        simp
      rw [e0]
      cases u with
      | nil =>
        unfold beg
        simp [wp]
      | cons x u =>
        have e1 : wm (x :: u ++ p :: v) = wp (x :: u) p ++ wp (p :: v) x := wp_app (x :: u) p v x
        have e2 : wm (p :: v ++ x :: u) = wp (p :: v) x ++ wp (x :: u) p := wp_app (p :: v) x u p
        rw [e1, e2]
        unfold beg
        simp
theorem na_get : ∀ {l : List Pt} {i : Nat} {p q : Pt}, Na l → l[i]? = some p → l[i + 1]? = some q → p.2.2 = true ∨ q.2.2 = true
  | [], _, _, _, _, h, _ => by simp at h
  | [x], i, p, q, _, _, h => by simp at h
  | x :: y :: l, 0, p, q, na, h, k => by
    simp at h k
    subst h k
    exact na.1
  | x :: y :: l, i + 1, p, q, na, h, k => na_get (l := y :: l) (i := i) na.2 (by simpa using h) (by simpa using k)
def fRi (ds : List PyData) (d : PyData) : Prop := ∃ c : List Pt, ds = [ctD c] ∧ c.length ≤ 100 ∧ d = ctD (wm c)
def fSt (ds : List PyData) (d : PyData) : Prop := ∃ c : List Pt, ds = [ctD c] ∧ c.length ≤ 100 ∧ d = .int (stOf c)
theorem stOf_first {c : List Pt} {k : Nat} {p : Pt} (hk : c[k]? = some p) (on : p.2.2 = true) (off : ∀ x, x ∈ c.take k → x.2.2 = false) : stOf c = ((wk c k).length : Int) := by
  have hkl := (List.getElem?_eq_some_iff.mp hk).1
  have e : ∃ l, ps c = k :: l := by
    unfold ps
    have h1 : List.range c.length = List.range k ++ (List.range (c.length - k)).map (k + ·) := by
      rw [← List.range_add]
      congr 1
      omega
    rw [h1, List.filter_append]
    have h2 : (List.range k).filter (fun i => (c.getD i p0).2.2) = [] := by
      rw [List.filter_eq_nil_iff]
      intro i hi
      have hi := List.mem_range.mp hi
      obtain ⟨x, hx⟩ : ∃ x, c[i]? = some x := ⟨_, List.getElem?_eq_getElem (by omega)⟩
      rw [getD_of hx, off x (List.mem_of_getElem? (i := i) (by rw [List.getElem?_take]; simp [hi, hx]))]
      decide
    rw [h2, List.nil_append]
    obtain ⟨n, hn⟩ : ∃ n, c.length - k = n + 1 := ⟨c.length - k - 1, by omega⟩
    rw [hn, List.range_succ_eq_map, List.map_cons, List.filter_cons]
    have : (c.getD (k + 0) p0).2.2 = true := by
      rw [Nat.add_zero, getD_of hk]
      exact on
    rw [if_pos this]
    exact ⟨_, rfl⟩
  obtain ⟨l, e⟩ := e
  unfold stOf
  rw [e]
theorem stOf_none {c : List Pt} (off : ∀ x, x ∈ c → x.2.2 = false) : stOf c = ((wm c).length : Int) - 1 := by
  have e : ps c = [] := by
    unfold ps
    rw [List.filter_eq_nil_iff]
    intro i hi
    have hi := List.mem_range.mp hi
    obtain ⟨x, hx⟩ : ∃ x, c[i]? = some x := ⟨_, List.getElem?_eq_getElem hi⟩
    rw [getD_of hx, off x (List.mem_of_getElem? hx)]
    decide
  unfold stOf
  rw [e]
end Fl

set_option Elab.async false
set_option linter.all false
set_option maxRecDepth 100000
set_option maxHeartbeats 4000000
set_option exponentiation.threshold 20000
/-! own errors: B.__init__(self, ..) of an own base; X() without fields; isinstance of a caught one -/
namespace Fl
open PySem PySem.Spec PyProof.Rows L2
/-- what the written part says of an own base class whose __init__ is ValueError's -/
structure BaseC (K : PySem.W.Frag) (C : Addr) : Prop where
  sg : PySem.W.specialIn K (.ref C) "__getattribute__" = some (some (.builtin "type.__getattribute__"))
  ty : PySem.W.typeIn K (.ref C) = some (.type "type")
  rd : PySem.W.readsIn K C (.type "type") = true
  fc : PySem.W.findCls K (.ref C) (.type "type") "__init__" = some (.val (.builtin "ValueError.__init__"))
section
variable {X : Cx} {o e : Expr} {es : List Expr} {te : TE} {ta : TA} {x : Str} {C : Addr} {p p' p1 p2 pos : Pos}
theorem pe_binit {pl : Sem Bool} (hg : Gl X x) (hm : X.mg x = some (.ref C)) (B : BaseC X.K C) (ha : PA X (e :: es) ta) (hdb : (x == ("__debug__" : Str)) = false := by decide)
    (hc : eval (.Call (.Attribute (.Name x p1) "__init__" p2) (e :: es) [] pos) X.env = (do
      let ov ← eval (.Name x p1) X.env
      standAt p2.atName
      let (f, first) ← holding [ov] (getMethod ov "__init__" pl)
      callWith pos f first (backTo pos (starEach (e :: es) X.env)) (backToKw pos (keywordEach [] X.env))) := by rfl)
    (he : starEach (e :: es) X.env = (false, eval e X.env) :: starEach es X.env := by rfl) (hpl : (backTo pos (starEach es X.env)).any (·.1) = false := by rfl) :
    PE X (.Call (.Attribute (.Name x p1) "__init__" p2) (e :: es) [] pos) (tVeI X.K ta) := by
  refine ⟨fun pins s σ H Q I h => PySem.W.methodCall_KW (ld_glob I hg hm ?_ hdb) hc⟩
  obtain ⟨m, fr⟩ := I.fr
  refine PySem.W.method_of_cls fr I.ok.mod.kin B.sg (PySem.W.cls_val fr I.ok.mod.kin B.ty B.rd B.fc (by decide +kernel) ?_)
  refine PyProof.Rows.callWith_method1 (thn (ha.run pos pins _ σ H _ (I.tok _) h) fun us s1 ⟨vs, H1, I1, r1, a, C, ws, ev, hl, T, ea, q⟩ => ?_) he hpl
  subst ev
  cases r1 with
  | cons ra rw' =>
    cases ra
    exact oinit_ok T I1 ea (by rw [← Paired.length rw', sizeLine_eq]; omega) fun s' J => ⟨.non, H1, J, rfl, q⟩
end
section
variable {X : Cx}
/-- an error without fields, made: let go -/
theorem mk_nod {pins : List (Addr × Obj)} {σ : L2.St} {H1 H2 : Hp} {hp hp2 h2 : Heap} {g1 g2 : Array GenState} {d1 d2 : Drawn} {t1 t2 : Nat} {os1 os2 : OsState} {a C : Addr} (I1 : Inv X pins σ H1 ⟨hp, g1, d1, t1, os1⟩)
    (ha : hp.objs.size ≤ a) (k : ∀ b o, hp.get? b = some o → hp2.get? b = some o) (un : Un (frs X.stack) [] (upd H1 a (exo a C none)) H2 hp2 h2) (hok : HOk X.prog X.w H2 h2) (ho : os2 = os1) (hb : AllBare g2) (ea : H2 a = some (exo a C none)) :
    ∃ (t0 : Addr) (G : Heap), Inv X pins σ (del H2 a) ⟨G, g2, d2, t2, os2⟩ ∧ (∀ b o, G.get? b = some o → h2.get? b = some o) ∧ G.get? a = none ∧
      h2.get? a = some ({ cls := .ref C, dict := none, data := .fields #[.ref t0, .none, .none, .none, .bool false, .none] } : Obj) := by
  obtain ⟨t0, hoe⟩ := exo_at hok ea
  have hn : H1 a = none := I1.hok.fresh ha
  obtain ⟨G, gk', ge'⟩ := restrict h2 fun b => decide (b ≠ a)
  have gk : ∀ b, b ≠ a → G.get? b = h2.get? b := fun b n => gk' b (decide_eq_true n)
  have ge : G.get? a = none := ge' a (by simp)
  have old : ∀ {b : Addr} {u : Obj}, hp.get? b = some u → b ≠ a := fun z => Nat.ne_of_lt (Nat.lt_of_lt_of_le (Heap.lt_size z) ha)
  have none1 : ∀ {b : Addr}, b ≠ a → H1 b = none → upd H1 a (exo a C none) b = none := fun n z => (upd_ne n).trans z
  have some1 : ∀ {b : Addr} {u : HO}, H1 b = some u → upd H1 a (exo a C none) b = some u := fun z => (upd_ne (ne_of_none z hn)).trans z
  have U : Un (frs X.stack) [] H1 (del H2 a) hp G :=
    { keep := fun b u z n hf hx => (gk b (old z)).trans (un.keep b u (k b u z) (none1 (old z) n) hf hx)
      slot := fun b u z n hf hx => by rw [gk b (old z)]; exact un.slot b u (k b u z) (none1 (old z) n) hf hx
      free := fun b u z n hx => (del_ne (old z)).trans (un.free b u (k b u z) (none1 (old z) n) hx)
      there := fun b u z hx => by rw [gk b (old z)]; exact un.there b u (k b u z) hx
      tups := fun b xs z => (del_ne (ne_of_none z hn)).trans (un.tups b xs (some1 z))
      frzs := fun b u v z => (del_ne (ne_of_none z hn)).trans (un.frzs b u v (some1 z))
      tbls := fun b ps z => by rw [del_ne (ne_of_none z hn)]; exact un.tbls b ps (some1 z) }
  have hok3 : HOk X.prog X.w (del H2 a) G := fun b u z => by
    have n : b ≠ a := fun e => by rw [e, del_same] at z; cases z
    rw [del_ne n] at z
    have away : ∀ {c : Addr}, H2 c = some (.own b) → c ≠ a := fun hc => at_ne ea hc exo_own
    refine (hok b u z).stay (fun c v hc y => (gk c ?_).trans y) (fun c hc => (del_ne (away hc)).trans hc) (fun c xs hc => (del_ne (at_ne ea hc exo_tup)).trans hc)
    rcases hc with hc | hc
    · rw [hc]; exact n
    · exact away hc
  refine ⟨t0, G, I1.call' (ch := []) ho U hok3 hb (fun b z => absurd z (by simp)), fun b u z => ?_, ge, hoe⟩
  rcases Decidable.em (b = a) with e | e
  · rw [e, ge] at z; cases z
  · exact (gk b e).symm.trans z
/-- X(), X's __init__ keeping sp -/
def tMkN (C : Addr) (sp : Sp) : L2.St → Hp → XK → Prop := fun _ H Q => ∀ a, H a = none → sp [.ref a] (upd H a (exo a C none)) (fun v H2 => v = .non ∧ H2 a = some (exo a C none) ∧ Q (.ref C) none (del H2 a)) (fun _ _ _ => False)
theorem pmk_nod {CX : CXT} {x : Str} {C fI : Addr} {k : Nat} {fd : FuncData} {ps : List Str} {sp : Sp} {p pos : Pos} (T : OexC X.K C) (iC : PySem.W.findIn X.K (.ref C) "__init__" = some (some (.ref fI))) (tI : PySem.W.typeIn X.K (.ref fI) = some (.type "function"))
    (F1 : FnOk X.prog X.w X.K X.mg X.base CX k fI fd ps sp) (hr : Room (k + 1) X.A) (hb : Binds X.K fd ps []) (hx : Passes CX X (fun _ _ _ => False)) (hg : Gl X x) (hm : X.mg x = some (.ref C)) (hdb : (x == ("__debug__" : Str)) = false := by decide) :
    PMk X (.Call (.Name x p) [] [] pos) (tMkN C sp) := by
  intro pins s σ H Q I h
  obtain ⟨nm, q, N, bs, bm, sn, sub, ab, col, dd, k0, k1, k2, k3, k5, hC, hbm⟩ := T.cls
  refine wpAny_Call_Name_kw (ld_glob I hg hm (PySem.W.callWith_K0 I.kIn T.kC ?_) hdb)
  show wpAny _ _ (call (.ref C) []) _ _ _
  obtain ⟨hp, g, dr, tk, os⟩ := s
  have hsz : hp.objs.size ≤ hp.objs.size + 1 := Nat.le_succ _
  have hn : H (hp.objs.size + 1) = none := I.hok.fresh hsz
  have hq := h (hp.objs.size + 1) hn
  have kk : ∀ b o, hp.get? b = some o → ((hp.push (PySem.W.kdv_tup [])).push (PySem.HandSPX.excO C hp.objs.size)).get? b = some o := fun b o e => Heap.get?_push_of_some _ (Heap.get?_push_of_some _ e)
  have here : ((hp.push (PySem.W.kdv_tup [])).push (PySem.HandSPX.excO C hp.objs.size)).get? (hp.objs.size + 1) = some (PySem.HandSPX.excO C hp.objs.size) := by heap_get
  have I2 : Inv X pins σ (upd H (hp.objs.size + 1) (exo (hp.objs.size + 1) C none)) ⟨(hp.push (PySem.W.kdv_tup [])).push (PySem.HandSPX.excO C hp.objs.size), g, dr, tk, os⟩ := I.laid (t' := tk) kk hsz (exo_ok here)
  have r2 : Vals [V.ref (hp.objs.size + 1)] [Value.ref (hp.objs.size + 1)] := .cons rfl .nil
  have hl : ([Value.ref (hp.objs.size + 1)] ++ ([] : List Value)).length = ps.length := (F1.len _ _ _ _ hq)
  refine wpAny_call (PySem.HandSPX.call_own F.excBase_ValueError (fun Y => PySem.HandSPX.refsVE_contains Y bm hbm) (I.kIn _ _ hC) (PySem.W.looks_findIn I.kIn iC) (fun self => PySem.W.bind_fn I.kIn self tI) (Nat.zero_le _)
    (codeAny_mono (F1.run _ X.stack _ _ ⟨[Value.ref (hp.objs.size + 1)], []⟩ [Value.ref (hp.objs.size + 1)] _ _ (fun _ _ _ => False) (hr.make C [] []) (I2.env0.make C [] []) (hb _ _ I2.kIn hl) r2 hq) fun r s' hq' => ?_))
  match r, hq' with
  | .error er, hq' => exact hx pins σ _ _ er s' I2 hq'
  | .ok (.ret u), ⟨v, H2, os2, bare2, un2, hok2, rv, ev, ea, q2⟩ =>
    subst ev
    obtain ⟨h2, g2, d2, t2, os'⟩ := s'
    obtain ⟨t0, G, J, kG, ge, hoe⟩ := mk_nod (d2 := d2) (t2 := t2) I hsz kk un2 hok2 os2 bare2 ea
    exact ⟨rv, _, _, _, ⟨G, g2, d2, t2, os'⟩, _, .ref C, none, rfl, J, kG, ge, hoe, ⟨rfl, rfl⟩, rfl, rfl, del_same, rfl, bare2, raises_own T.exC T.tyC, q2⟩
/-- isinstance(e, c), e the error that the suite holds, without fields -/
def rIsN (K : PySem.W.Frag) (cls : Value) (d : Option Addr) (a : Addr) : List V → Hp → VK → Prop := fun xs H Q => ∃ D, cls = .ref D ∧ d = none ∧ ExcC K D ∧ rIsE K D a xs H Q
theorem call_isN {a : Addr} {cls : Value} {d : Option Addr} {oe : Obj} {K : PySem.W.Frag} (eK : X.K = K) (hp : (a, oe) ∈ X.pn) (hz : Zc cls d oe) (hf : ∃ vs, oe.data = .fields vs) : CallR X (.builtin "isinstance") (rIsN K cls d a) := by
  subst eK
  intro pins s σ H xs us Q I r ⟨D, e1, e2, C, c, cv, b, e3, hcv, e, q⟩
  subst e1 e2 e3
  obtain ⟨u1, u2, rfl, r1, r2⟩ := vals2 r
  cases r1
  obtain rfl := hcv _ r2
  obtain ⟨vs, hv⟩ := hf
  have J : PySem.W.InstAt s.heap a oe D none := by
    obtain ⟨h1, h2⟩ := hz
    refine ⟨(I.pin (a, oe) (List.mem_append_left _ hp)).1, h1, ?_, ?_⟩
    · unfold PySem.W.notCls
      rw [hv]
    · rw [h2]
      trivial
  exact PySem.W.kia_one (PySem.W.handS_kitx_exc C.hg C.hk C.hs C.hd C.ha C.hn C.ht C.hm) I.kIn J e (fun z => nomatch z) fun tk => ⟨.bl b, H, I.kept (t' := tk) fun _ _ z => z, rfl, q⟩
end
end Fl
namespace Fl
open PySem PySem.Spec PyProof.Rows L2
/-- where a name of the module's top stands -/
def adr (mg : Str → Option Value) (x : Str) : Addr := match mg x with | some (.ref a) => a | _ => 0
theorem adr_of {mg : Str → Option Value} {x : Str} {a : Addr} (h : mg x = some (.ref a)) : adr mg x = a := by unfold adr; rw [h]
/-- an own error class without fields -/
structure ClsN (K : PySem.W.Frag) (mg : Str → Option Value) (x qual : Str) (st : Stmt) : Prop where
  g : mg x = some (.ref (adr mg x))
  o : OexC K (adr mg x)
  c : ExcC K (adr mg x)
  i : ∃ (fI : Addr) (fd : FuncData), PySem.W.findIn K (.ref (adr mg x)) "__init__" = some (some (.ref fI)) ∧ PySem.W.typeIn K (.ref fI) = some (.type "function") ∧ Fun K "__init__" qual st fI fd
def spIniN (K : PySem.W.Frag) (C : Addr) : Sp := fun vs H Q _ => ∃ a : Addr, vs = [.ref a] ∧ H a = some (exo a C none) ∧ Q .non H
structure MkX (P : Program) (w : World) (K : PySem.W.Frag) (mg : Str → Option Value) (base : Heap) (k : Nat) (x : Str) : Prop where
  g : mg x = some (.ref (adr mg x))
  o : OexC K (adr mg x)
  i : ∃ (fI : Addr) (fd : FuncData), PySem.W.findIn K (.ref (adr mg x)) "__init__" = some (some (.ref fI)) ∧ PySem.W.typeIn K (.ref fI) = some (.type "function") ∧ FnOk P w K mg base L2.CX0 k fI fd ["self"] (spIniN K (adr mg x)) ∧ L2.Binds K fd ["self"] []
def tRaiseN (W : WX) (C : Addr) : TS := fun _ σ H => W (.ref C) none σ H
theorem del_upd {H : Hp} {a : Addr} {u : HO} (h : H a = none) : del (upd H a u) a = H := by
  funext b
  by_cases e : b = a
  · rw [e, del_same, h]
  · rw [del_ne e, upd_ne e]
theorem ps_raiseN {X : Cx} {W : WX} {k : Nat} {x : Str} {p pos pos2 : Pos} (M : MkX X.prog X.w X.K X.mg X.base k x) (hc : X.calm = true) (hr : Room (k + 1) X.A) (tk : Takes X W) (hg : Gl X x := by rfl) (hdb : (x == ("__debug__" : Str)) = false := by decide) :
    PS X (.Raise (some (.Call (.Name x p) [] [] pos)) none pos2) (tRaiseN W (adr X.mg x)) := by
  obtain ⟨fI, fd, iC, tI, F, b⟩ := M.i
  refine ⟨fun pins s σ H D I h => (ps_raise hc tk (pmk_nod (CX := L2.CX0) M.o iC tI F hr b (fun _ _ _ _ _ _ _ z => z.elim) hg M.g hdb)).run pins s σ H D I fun a ha => ⟨a, rfl, upd_same, rfl, upd_same, ?_⟩⟩
  rw [del_upd ha]
  exact h
/-- defs that may raise -/
structure HasX (P : Program) (w : World) (K : PySem.W.Frag) (mg : Str → Option Value) (base : Heap) (k : Nat) (x : Str) (ps : List Str) (sp : Sp) : Prop where
  ex : ∃ (f : Addr) (fd : FuncData), FnOk P w K mg base (L2.CX P w) k f fd ps sp ∧ mg x = some (.ref f) ∧ PySem.W.keepIn K (.ref f) = true ∧ L2.Binds K fd ps []
abbrev bxX (P : Program) (w : World) (K : PySem.W.Frag) (mg : Str → Option Value) (base : Heap) (N : List Str) (x : Str) (st : Stmt) (f : Addr) (cdv : Value) (A : Around) (outer : List Env) (s : Shared) (H : Hp) (E : XK) : Cx :=
  cxOf (L2.CX P w) P w K mg base N x (defScope st) f cdv A outer s H E
section
variable {P : Program} {w : World} {K : PySem.W.Frag} {mg : Str → Option Value} {base : Heap}
theorem hasX_of {x : Str} {st : Stmt} {N ps : List Str} {k : Nat} {sp : Sp} (D : DefIn K mg x st) (S : FnScope N ps (defScope st))
    (hb : ∀ (kV doc pm : Value) (an : Option Addr) (cdv ct : Value) (us : List Value), us.length = ps.length → bindArgs (PySem.W.fnOf x x (defArgs st) (defBody st) (defScope st) .none kV doc pm an cdv ct) ⟨us, []⟩ = pure (ps.zip us))
    (len : ∀ vs H Q E, sp vs H Q E → vs.length = ps.length)
    (hbody : ∀ (f : Addr) (cdv : Value) (A : Around) (outer : List Env) (s : Shared) (H : Hp) (vs : List V) (Q : VK) (E : XK), Room k (A.deeper (envOfC x (defScope st) s.heap.objs.size f cdv)) → sp vs H Q E →
      ∃ t, PSs (bxX P w K mg base N x st f cdv A outer s H E) (defBody st) t ∧ t { nx := fun _ H' => Q .non H', rt := Q } (start N vs) H) : HasX P w K mg base (k + 1) x ps sp := by
  obtain ⟨f, fd, F, m⟩ := D.ex
  exact ⟨f, fd, F.okX S len fun cdv A outer s H vs Q E hr h => hbody f cdv A outer s H vs Q E hr h, m, F.kp, F.binds hb⟩
/-- the same of a def with defaults, all values written -/
theorem hasXD_of {x : Str} {st : Stmt} {N ps : List Str} {k : Nat} {sp : Sp} {dvs : List V} (D : DefInD K mg x st dvs) (S : FnScope N ps (defScope st)) (hd : dvs ≠ [])
    (hb : ∀ (T : Addr) (kV doc pm : Value) (an : Option Addr) (cdv ct : Value) (us its : List Value), us.length = ps.length → its.length = dvs.length →
      ∃ k, bindArgs (PySem.W.fnOf x x (defArgs st) (defBody st) (defScope st) (.ref T) kV doc pm an cdv ct) ⟨us, []⟩ = seqItems? (.ref T) >>= k ∧ k (some its.toArray) = pure (ps.zip (us ++ its.drop dvs.length)))
    (len : ∀ vs H Q E, sp vs H Q E → vs.length = ps.length)
    (hbody : ∀ (f : Addr) (cdv : Value) (A : Around) (outer : List Env) (s : Shared) (H : Hp) (vs : List V) (Q : VK) (E : XK), Room k (A.deeper (envOfC x (defScope st) s.heap.objs.size f cdv)) → sp vs H Q E →
      ∃ t, PSs (bxX P w K mg base N x st f cdv A outer s H E) (defBody st) t ∧ t { nx := fun _ H' => Q .non H', rt := Q } (start N vs) H) : HasX P w K mg base (k + 1) x ps sp := by
  obtain ⟨f, fd, F, m⟩ := D.ex
  obtain ⟨ds, r, b⟩ := F.binds1 ps.length dvs.length hd (by rw [Nat.sub_self, Nat.add_zero]) hb
  rw [List.drop_length] at r
  cases r
  exact ⟨f, fd, F.ok S len fun cdv A outer s H vs Q E hr h => hbody f cdv A outer s H vs Q E hr h, m, F.kp, b⟩
theorem mkX_of {x qual : Str} {st : Stmt} {k : Nat} (C : ClsN K mg x qual st) (S : FnScope ["self"] ["self"] (defScope st))
    (hb : ∀ (kV doc pm : Value) (an : Option Addr) (cdv ct : Value) (us : List Value), us.length = 1 → bindArgs (PySem.W.fnOf "__init__" qual (defArgs st) (defBody st) (defScope st) .none kV doc pm an cdv ct) ⟨us, []⟩ = pure ((["self"] : List Str).zip us))
    (hbody : ∀ (f : Addr) (cdv : Value) (A : Around) (outer : List Env) (s : Shared) (H : Hp) (a : Addr) (Q : VK) (E : XK), Room k (A.deeper (envOfC qual (defScope st) s.heap.objs.size f cdv)) → H a = some (exo a (adr mg x) none) → Q .non H →
      ∃ t, PSs (cxOf L2.CX0 P w K mg base ["self"] qual (defScope st) f cdv A outer s H E).nox (defBody st) t ∧ t { nx := fun _ H' => Q .non H', rt := Q } (start ["self"] [.ref a]) H) : MkX P w K mg base (k + 1) x := by
  obtain ⟨fI, fd, iC, tI, F⟩ := C.i
  refine ⟨C.g, C.o, fI, fd, iC, tI, F.ok S (fun vs H Q E ⟨a, e, _⟩ => by rw [e]; rfl) fun cdv A outer s H vs Q E hr ⟨a, e, h, q⟩ => ?_, F.binds hb⟩
  subst e
  exact hbody fI cdv A outer s H a Q E hr h q
end
theorem pe_hX {X : Cx} {k : Nat} {x : Str} {ps : List Str} {sp : Sp} {W : WX} {e : Expr} {es : List Expr} {t : TA} {p pos : Pos} (h : HasX X.prog X.w X.K X.mg X.base k x ps sp) (hr : Room k X.A) (tk : Takes X W) (ha : PA X (e :: es) t) (hg : Gl X x := by rfl)
    (hdb : (x == ("__debug__" : Str)) = false := by decide) (he : starEach (e :: es) X.env = (false, eval e X.env) :: starEach es X.env := by rfl) (hpl : (backTo pos (starEach es X.env)).any (·.1) = false := by rfl) :
    PE X (.Call (.Name x p) (e :: es) [] pos) (tCallS sp (WE W) t) := by
  obtain ⟨f, fd, a, b, c, d⟩ := h.ex
  exact pe_callS a hr hg b c d (fun σ => passAt tk σ) ha hdb he hpl
theorem g_callS {sp : Sp} {E : L2.St → XK} {t : TA} {σ : L2.St} {H : Hp} {Q : VK} (h : t σ H fun vs H1 => sp vs H1 Q (E σ)) : tCallS sp E t σ H Q := h
theorem g_raiseN {W : WX} {C : Addr} {D : Ends} {σ : L2.St} {H : Hp} (h : W (.ref C) none σ H) : tRaiseN W C D σ H := h
theorem g_isN {K : PySem.W.Frag} {D a : Addr} {c : V} {cv : Value} {b : Bool} {H : Hp} {Q : VK} (C : ExcC K D) (hc : ∀ u, RelV c u → u = cv) (k : PySem.W.kitOne K (.ref D) cv = some b) (q : Q (.bl b) H) : rIsN K (.ref D) none a [.ref a, c] H Q := ⟨D, rfl, rfl, C, c, cv, b, rfl, hc, k, q⟩
theorem wAs_yes {K : PySem.W.Frag} {c cls : Value} {d : Option Addr} {i : Nat} {ts : Addr → Value → Option Addr → TS} {Wout : WX} {D : Ends} {σ : L2.St} {H : Hp} (h : PySem.W.exmOne K cls c = some true)
    (k : ∀ a, H a = none → ts a cls d { nx := fun σ' H' => D.nx (σ'.set i none) H', rt := D.rt, bk := fun σ' H' => D.bk (σ'.set i none) H', ct := fun σ' H' => D.ct (σ'.set i none) H' } (σ.set i (some (.ref a))) H) : wAs K c i ts Wout D cls d σ H :=
  ⟨true, h, fun _ => k, fun z => nomatch z⟩
theorem Has.imp {P : Program} {w : World} {K : PySem.W.Frag} {mg : Str → Option Value} {base : Heap} {k : Nat} {x : Str} {ps : List Str} {sp sp' : Sp} (h : Has P w K mg base k x ps sp) (i : ∀ vs H Q E, sp' vs H Q E → sp vs H Q E) : Has P w K mg base k x ps sp' := by
  obtain ⟨f, fd, a, b⟩ := h.ex
  exact ⟨f, fd, a.imp i, b⟩
end Fl
namespace Fl
open PySem PySem.Spec PyProof.Rows L2
theorem ratq_rat {K : PySem.W.Frag} {vs : List V} {H : Hp} {Q : VK} {E : XK} (h : spRatq K vs H Q E) : spRat vs H Q E := by
  obtain ⟨p, q, rfl, hq, h1, h2, k⟩ := h
  refine ⟨p, q, rfl, hq, Nat.lt_of_lt_of_le h1 (Nat.pow_le_pow_right (by decide) (by decide)), Nat.lt_of_lt_of_le h2 (Nat.pow_le_pow_right (by decide) (by decide)), fun t ht => k t _ ht (Fl.Same.new ht) ?_⟩
  unfold RV
  rw [rp_num hq, rq_den hq]
  exact SqT.of upd_same
def spInt (K : PySem.W.Frag) : Sp := fun vs H Q _ => ∃ d : Addr, vs = [.ref d] ∧ DeckAt K H d ∧ ∀ v H', v.natAbs < 10 ^ 60 → DeckAt K H' d → Ex1 d H H' → Q (.int v) H'
theorem int_app {K : PySem.W.Frag} {d : Addr} {H : Hp} {Q : VK} {E : XK} (h : DeckAt K H d) (k : ∀ v H', v.natAbs < 10 ^ 60 → DeckAt K H' d → Ex1 d H H' → Q (.int v) H') : spInt K [.ref d] H Q E := ⟨d, rfl, h, k⟩
def spSameQ (K : PySem.W.Frag) : Sp := fun vs H Q _ => ∃ (a b : Addr) (x : Rat), vs = [.ref a, .ref b] ∧ RV K H a x ∧ RV K H b x ∧ Q (.bl true) H
theorem sameQ_app {K : PySem.W.Frag} {a b : Addr} {x : Rat} {H : Hp} {Q : VK} {E : XK} (h1 : RV K H a x) (h2 : RV K H b x) (q : Q (.bl true) H) : spSameQ K [.ref a, .ref b] H Q E := ⟨a, b, x, rfl, h1, h2, q⟩
def spRat0 (Z : Addr) : Sp := fun vs H _ E => ∃ p : Int, vs = [.int p, .int 0] ∧ E (.ref Z) none H
def spDiv0 (K : PySem.W.Frag) (Z : Addr) : Sp := fun vs H _ E => ∃ (a b : Addr) (x : Rat), vs = [.ref a, .ref b] ∧ RV K H a x ∧ Md x ∧ SqT K H b [.int 0, .int 1] ∧ E (.ref Z) none H
def spRefu (K : PySem.W.Frag) : Sp := fun vs H Q _ => ∃ (p : Int) (a : Addr) (x : Rat), vs = [.int p, .ref a] ∧ RV K H a x ∧ Md x ∧ ∀ H', Same H H' → Q (.bl true) H'
theorem refu_app {K : PySem.W.Frag} {p : Int} {a : Addr} {x : Rat} {H : Hp} {Q : VK} {E : XK} (h : RV K H a x) (m : Md x) (q : ∀ H', Same H H' → Q (.bl true) H') : spRefu K [.int p, .ref a] H Q E := ⟨p, a, x, rfl, h, m, q⟩
theorem rv_int {K : PySem.W.Frag} {H : Hp} {a : Addr} {p : Int} (h : SqT K H a [.int p, .int 1]) : RV K H a (Rat.divInt p 1) := by
  unfold RV
  have e1 : (Rat.divInt p 1).num = p := by rw [Rat.num_divInt]; simp
  have e2 : (Rat.divInt p 1).den = 1 := by rw [Rat.den_divInt]; simp
  rw [e1, e2]
  exact h
end Fl
namespace Fl
open PySem PySem.Spec PyProof.Rows L2
theorem tyT {K : PySem.W.Frag} {H : Hp} {a : Addr} {xs : List V} (h : SqT K H a xs) : TyX K H (.ref a) (.type "tuple") := by
  rcases h with (h | ⟨o, h⟩) | ⟨o, its, n, h, c, _⟩
  · exact .base (.tup h)
  · exact .fTuple h
  · exact .kTuple h c
end Fl
namespace Fl
open PySem PySem.Spec PyProof.Rows L2
theorem pe_cls {X : Cx} {x : Str} {pos : Pos} {a : Addr} (g : Gl X x) (h : X.mg x = some (.ref a)) (n : (x == ("__debug__" : Str)) = false := by decide) : PE X (.Name x pos) (tC (.ref a)) := pe_glob g h rfl n
end Fl
namespace Fl
open PySem PySem.Spec PyProof.Rows L2
theorem pe_asK {X : Cx} {e : Expr} {t t' : TE} (h : PE X e t) (q : t' = t := by rfl) : PE X e t' := by subst q; exact h
end Fl
namespace Fl
open PySem PySem.Spec PyProof.Rows L2
theorem pe_bmK {X : Cx} {K : PySem.W.Frag} {o e : Expr} {es : List Expr} {to : TE} {t : TA} {T id : String} {name : Str} {apos cpos : Pos} {r : V → List V → Hp → VK → Prop} (eK : X.K = K) (pa : PlainAttrs T) (slot : Slot T name id) (hty : typeOf (.builtin id) = pure (.type "method_descriptor")) (hm : MtR X id r) (ho : PE X o to) (ha : PA X (e :: es) t)
    (h1 : attributeBase o name X.env (eval o X.env) = eval o X.env := by rfl)
    (h2 : ((backTo cpos (starEach (e :: es) X.env)).all (fun x => !x.1) && (backToKw cpos (keywordEach [] X.env)).all (fun x => x.1.isSome) && decide ((e :: es).length + ([] : List Keyword).length + (if ([] : List Keyword).isEmpty then 0 else 1) < 30)) = true := by rfl)
    (h3 : (apos.endLine == cpos.line) = true := by rfl) (h4 : starEach (e :: es) X.env = (false, eval e X.env) :: starEach es X.env := by rfl) (h5 : (backTo cpos (starEach es X.env)).any (·.1) = false := by rfl) :
    PE X (.Call (.Attribute o name apos) (e :: es) [] cpos) (tBM K T r to t) := by
  subst eK
  exact pe_bm pa slot hty hm ho ha h1 h2 h3 h4 h5
end Fl
namespace Fl
open PySem PySem.Spec PyProof.Rows L2
theorem kit_self (K : PySem.W.Frag) (a : Addr) : PySem.W.kitOne K (.ref a) (.ref a) = some true := by
  unfold PySem.W.kitOne
  rw [if_pos (by simp)]
theorem kit_typ {K : PySem.W.Frag} {a : Addr} {T : String} {b : Bool} (h : PySem.W.subIn K (.ref a) (.type T) = some b) (m : PySem.W.kitMeta T = true) : PySem.W.kitOne K (.ref a) (.type T) = some b := by
  unfold PySem.W.kitOne
  rw [if_neg (by intro z; cases z)]
  show (if PySem.W.kitMeta T = true then PySem.W.subIn K (.ref a) (.type T) else none) = some b
  rw [if_pos m, h]
end Fl

set_option Elab.async false
set_option linter.all false
set_option maxRecDepth 100000
set_option maxHeartbeats 4000000
set_option exponentiation.threshold 20000
/-! objects of the program's own classes: made with named parameters, their fields set and read -/
namespace Fl
open PySem PySem.Spec PyProof.Rows L2

/-! ### parameters put in order -/
def pick {α : Type} (is : List Nat) (l : List α) : List α := is.filterMap fun i => l[i]?
theorem Vals.getO : ∀ {vs : List V} {us : List Value} (h : Vals vs us) (i : Nat), (∃ v u, vs[i]? = some v ∧ us[i]? = some u ∧ RelV v u) ∨ (vs[i]? = none ∧ us[i]? = none)
  | _, _, .nil, i => .inr ⟨by simp, by simp⟩
  | _, _, .cons h r, 0 => .inl ⟨_, _, rfl, rfl, h⟩
  | _, _, .cons h r, i + 1 => by
    rcases Vals.getO r i with ⟨v, u, a, b, c⟩ | ⟨a, b⟩
    · exact .inl ⟨v, u, by simpa using a, by simpa using b, c⟩
    · exact .inr ⟨by simpa using a, by simpa using b⟩
theorem Vals.pick {vs : List V} {us : List Value} (h : Vals vs us) : ∀ is : List Nat, Vals (Fl.pick is vs) (Fl.pick is us)
  | [] => .nil
  | i :: is => by
    unfold Fl.pick
    rw [List.filterMap_cons, List.filterMap_cons]
    rcases Vals.getO h i with ⟨v, u, a, b, c⟩ | ⟨a, b⟩
    · rw [a, b]
      exact .cons c (Vals.pick h is)
    · rw [a, b]
      exact Vals.pick h is
theorem Vals.app : ∀ {vs : List V} {us : List Value} {ws : List V} {zs : List Value}, Vals vs us → Vals ws zs → Vals (vs ++ ws) (us ++ zs)
  | _, _, _, _, .nil, k => k
  | _, _, _, _, .cons h r, k => .cons h (Vals.app r k)

/-! ### classes -/
/-- a class without bases whose __init__ has named parameters with defaults -/
structure ClsI (K : PySem.W.Frag) (mg : Str → Option Value) (x qual : Str) (st : Stmt) (fs : List Str) (kws : List (Str × V)) : Prop where
  g : mg x = some (.ref (adr mg x))
  cl : Cls K (adr mg x)
  na : ∀ f, f ∈ fs → NoAttr K (adr mg x) f
  mi : ∃ (f : Addr) (fd : FuncData), Mk K (adr mg x) f ∧ FunD K "__init__" qual (defArgs st) (defBody st) (defScope st) [] kws f fd
/-- the class can be called with n values and the names ks -/
structure MkI (P : Program) (w : World) (K : PySem.W.Frag) (mg : Str → Option Value) (base : Heap) (k : Nat) (x : Str) (n : Nat) (ks : List Str) (gV : List V → List V → List V) (sp : Sp) : Prop where
  ex : ∃ (f : Addr) (fd : FuncData) (ps : List Str) (g : List Value → List Value → List Value), mg x = some (.ref (adr mg x)) ∧ Mk K (adr mg x) f ∧ FnOk P w K mg base L2.CX0 k f fd ps sp ∧ KBn K fd ps (n + 1) ks g gV
theorem MkI.mono {P : Program} {w : World} {K : PySem.W.Frag} {mg : Str → Option Value} {base : Heap} {j k : Nat} {x : Str} {n : Nat} {ks : List Str} {gV : List V → List V → List V} {sp : Sp} (h : MkI P w K mg base j x n ks gV sp) (e : j ≤ k) : MkI P w K mg base k x n ks gV sp := by
  obtain ⟨f, fd, ps, g, a, b, c, d⟩ := h.ex
  exact ⟨f, fd, ps, g, a, b, c.mono e, d⟩
/-- an __init__'s promise -/
structure InI (P : Program) (w : World) (K : PySem.W.Frag) (mg : Str → Option Value) (base : Heap) (k : Nat) (x qual : Str) (st : Stmt) (fs : List Str) (kws : List (Str × V)) (ps : List Str) (sp : Sp) : Prop where
  ex : ∃ (f : Addr) (fd : FuncData), mg x = some (.ref (adr mg x)) ∧ Mk K (adr mg x) f ∧ FunD K "__init__" qual (defArgs st) (defBody st) (defScope st) [] kws f fd ∧ FnOk P w K mg base L2.CX0 k f fd ps sp
section
variable {P : Program} {w : World} {K : PySem.W.Frag} {mg : Str → Option Value} {base : Heap}
theorem inI_of {x qual : Str} {st : Stmt} {fs : List Str} {kws : List (Str × V)} {N ps : List Str} {k : Nat} {sp : Sp} (D : ClsI K mg x qual st fs kws) (S : FnScope N ps (defScope st))
    (len : ∀ vs H Q E, sp vs H Q E → vs.length = ps.length)
    (hbody : ∀ (f : Addr) (cdv : Value) (A : Around) (outer : List Env) (s : Shared) (H : Hp) (vs : List V) (Q : VK) (E : XK), Room k (A.deeper (envOfC qual (defScope st) s.heap.objs.size f cdv)) → sp vs H Q E →
      ∃ t, PSs (bx P w K mg base N qual st f cdv A outer s H E) (defBody st) t ∧ t { nx := fun _ H' => Q .non H', rt := Q } (start N vs) H) : InI P w K mg base (k + 1) x qual st fs kws ps sp := by
  obtain ⟨f, fd, M, F⟩ := D.mi
  refine ⟨f, fd, D.g, M, F, F.ok S len fun cdv A outer s H vs Q E hr h => ?_⟩
  obtain ⟨t, ht, q⟩ := hbody f cdv A outer s H vs Q E hr h
  exact ⟨t, ht.nox, q⟩
/-- the calls with n values and the names ks; ms stand by default; is: where each parameter stands in values, defaults, named ones -/
theorem InI.make {x qual : Str} {st : Stmt} {fs : List Str} {kws : List (Str × V)} {ps : List Str} {k : Nat} {sp : Sp} (D : InI P w K mg base k x qual st fs kws ps sp) (n : Nat) (ks : List Str) (ms : List (Str × V)) (is : List Nat) (hk : kws ≠ [])
    (hm : ∀ q, q ∈ ms → q ∈ kws)
    (hb : ∀ (D : Addr) (doc pm : Value) (an : Option Addr) (cdv ct : Value) (us mv ws : List Value), us.length = n + 1 → mv.length = ms.length → ws.length = ks.length →
      KwChain D ((ms.map (fun x => x.fst)).zip mv) (bindArgs (PySem.W.fnOf "__init__" qual (defArgs st) (defBody st) (defScope st) .none (.ref D) doc pm an cdv ct) ⟨us, ks.zip ws⟩) (ps.zip (pick is (us ++ (mv ++ ws))))) :
    MkI P w K mg base k x n ks (fun vs zs => pick is (vs ++ (ms.map (fun x => x.snd) ++ zs))) sp := by
  obtain ⟨f, fd, a, M, F, G⟩ := D.ex
  obtain ⟨mv, b⟩ := F.kbinds0 (n + 1) ks ms (fun {α} us mv ws => pick is (us ++ (mv ++ ws))) hk hm (fun h1 h2 h3 => Vals.pick (Vals.app h1 (Vals.app h2 h3)) is) hb
  exact ⟨f, fd, ps, _, a, M, G, b⟩
end
theorem pe_mk {X : Cx} {mg : Str → Option Value} {k n : Nat} {x : Str} {ks : List Str} {sp : Sp} {gV : List V → List V → List V} {e : Expr} {es : List Expr} {kws : List Keyword} {t tk : TA} {p pos : Pos} (em : X.mg = mg) (h : MkI X.prog X.w X.K X.mg X.base k x n ks gV sp) (hr : Room (k + 1) X.A) (ha : PA X (e :: es) t) (hk : PK X kws tk) (hg : Gl X x := by rfl)
    (h1 : ((backToKw pos (keywordEach kws X.env)).all fun x => x.fst.isSome) = true := by rfl) (h2 : List.filterMap (fun x => x.fst) (backToKw pos (keywordEach kws X.env)) = ks := by rfl)
    (hdb : (x == ("__debug__" : Str)) = false := by decide) (he : starEach (e :: es) X.env = (false, eval e X.env) :: starEach es X.env := by rfl)
    (hpl : (((backTo pos (starEach (e :: es) X.env)).any fun x => x.fst) || (backToKw pos (keywordEach kws X.env)).any fun x => x.fst.isNone) = false := by rfl) :
    PE X (.Call (.Name x p) (e :: es) kws pos) (tMakeK (adr mg x) n ks.length sp gV E0 t tk) := by
  subst em
  obtain ⟨f, fd, ps, g, a, b, c, d⟩ := h.ex
  exact pe_makeK b c hr hg a d pass0 ha hk h1 h2 hdb he hpl

/-! ### walked things of two kinds -/
def iOr (t1 t2 : TI) : TI := fun σ H R => t1 σ H R ∨ t2 σ H R
theorem piOr {X : Cx} {tg l : Expr} {t1 t2 : TI} (h1 : PI X tg l t1) (h2 : PI X tg l t2) : PI X tg l (iOr t1 t2) := ⟨fun pins s σ H R I h => h.elim (h1.run pins s σ H R I) (h2.run pins s σ H R I)⟩
theorem piS {X : Cx} {K : PySem.W.Frag} {l tg : Expr} {tl : TE} (e : X.K = K) (h : PE X l tl) : PI X tg l (iOr (iList K tl) (iTup K tl)) := piOr (piL e h) (piT e h)
section
variable {X : Cx} {K : PySem.W.Frag}
def rTupOf (K : PySem.W.Frag) : List V → Hp → VK → Prop := fun xs H Q => ∃ p ys, xs = [V.ref p] ∧ ((SqL K H p ys ∧ ∀ l, H l = none → Q (.ref l) (upd H l (.tup ys))) ∨ SqT K H p ys ∧ Q (.ref p) H)
theorem clTupOf (e : X.K = K) : CallR X (.type "tuple") (rTupOf K) := by subst e; exact call_tuple_of
def rLstOf (K : PySem.W.Frag) : List V → Hp → VK → Prop := fun xs H Q => ∃ p ys, xs = [V.ref p] ∧ (SqL K H p ys ∨ SqT K H p ys) ∧ ∀ l, H l = none → Q (.ref l) (upd H l (.lst ys))
theorem clLstOf (e : X.K = K) : CallR X (.type "list") (rLstOf K) := by subst e; exact call_list_of
/-- o.f = e, within a written part of its own -/
theorem psFld {o value : Expr} {f : Str} {pos pos' : Pos} {ta tv : TE} (e : X.K = K) (h1 : PE X o ta) (h2 : PE X value tv) (hs : swapsWith value (some (o.Attribute f pos')) pos.line X.env = pure false) : PS X (.Assign [o.Attribute f pos'] value pos) (sFld K ta tv f) := by subst e; exact ps_fld h1 h2 hs
theorem peFld {o : Expr} {f : Str} {pos : Pos} {ta : TE} (e : X.K = K) (h : PE X o ta) (hb : attributeBase o f X.env (eval o X.env) = eval o X.env) : PE X (o.Attribute f pos) (tFld K ta f) := by subst e; exact pe_fld h hb
end

/-! ### data of objects -/
def encF (p : Str × PyData) : PyData × PyData := (.str p.1, p.2)
def insD (C : Addr) (fs : List (Str × PyData)) : PyData := .dict ((.none, .int (C : Int)) :: fs.map encF)
inductive DqN (S : List Addr) (H : Hp) : List (Str × V) → List (Str × PyData) → Prop
  | nil : DqN S H [] []
  | cons {n : Str} {v : V} {d : PyData} {fs : List (Str × V)} {ds : List (Str × PyData)} : Dq S H v d → DqN S H fs ds → DqN S H ((n, v) :: fs) ((n, d) :: ds)
section
variable {S T : List Addr} {H H' : Hp} {fs gs : List (Str × V)} {ds es : List (Str × PyData)} {v : V} {d : PyData} {n : Str}
theorem DqN.enc : ∀ {fs : List (Str × V)} {ds : List (Str × PyData)}, DqN S H fs ds → DqF S H fs (ds.map encF)
  | _, _, .nil => .nil
  | _, _, .cons h r => .cons h (DqN.enc r)
theorem DqF.dec : ∀ {fs : List (Str × V)} {ds : List (Str × PyData)}, DqF S H fs (ds.map encF) → DqN S H fs ds
  | _, [], h => by cases h; exact .nil
  | _, (n, d) :: ds, h => by
    cases h with
    | cons h r => exact .cons h (DqF.dec r)
theorem DqN.app : ∀ {fs gs : List (Str × V)} {ds es : List (Str × PyData)}, DqN S H fs ds → DqN S H gs es → DqN S H (fs ++ gs) (ds ++ es)
  | _, _, _, _, .nil, k => k
  | _, _, _, _, .cons h r, k => .cons h (DqN.app r k)
theorem DqN.fr : ∀ {fs : List (Str × V)} {ds : List (Str × PyData)}, DqN S H fs ds → Fr S H H' → DqN S H' fs ds
  | _, _, .nil, _ => .nil
  | _, _, .cons h r, e => .cons (h.fr e) (DqN.fr r e)
theorem DqN.mono : ∀ {fs : List (Str × V)} {ds : List (Str × PyData)}, DqN S H fs ds → (∀ a, a ∈ T → a ∈ S) → DqN T H fs ds
  | _, _, .nil, _ => .nil
  | _, _, .cons h r, e => .cons (h.mono e) (DqN.mono r e)
theorem DqN.names : ∀ {fs : List (Str × V)} {ds : List (Str × PyData)}, DqN S H fs ds → fs.map Prod.fst = ds.map Prod.fst
  | _, _, .nil => rfl
  | _, _, .cons h r => by rw [List.map_cons, List.map_cons, DqN.names r]
theorem DqN.look : ∀ {fs : List (Str × V)} {ds : List (Str × PyData)} {d : PyData}, DqN S H fs ds → ds.lookup n = some d → ∃ v, fs.lookup n = some v ∧ Dq S H v d
  | _, _, _, .nil, e => by simp at e
  | _, _, d, .cons (n := m) h r, e => by
    rw [List.lookup_cons] at e ⊢
    cases hb : n == m with
    | true => rw [hb] at e; cases e; exact ⟨_, rfl, h⟩
    | false => rw [hb] at e; exact DqN.look r e
theorem Dq.insE {C : Addr} (h : Dq S H v (insD C ds)) : ∃ a dx fs, v = .ref a ∧ a ∉ S ∧ H a = some (.ins C dx fs) ∧ DqN S H fs ds := by
  unfold insD at h
  generalize e : (C : Int) = c at h
  cases h with
  | ins n q r =>
    rename_i C' dx fs
    have : C = C' := by exact_mod_cast e
    subst this
    exact ⟨_, _, _, rfl, n, q, DqF.dec r⟩
theorem Dq.insI {C a dx : Addr} (n : a ∉ S) (q : H a = some (.ins C dx fs)) (r : DqN S H fs ds) : Dq S H (.ref a) (insD C ds) := .ins n q r.enc
end
/-- an empty tuple of the written part: a default -/
def EmT (K : PySem.W.Frag) (a : Addr) : Prop := ∃ o its n, K.lookup a = some o ∧ o.cls = .type "tuple" ∧ o.data = .seq its n ∧ its.size ≤ sizeLine ∧ Vals [] its.toList
theorem EmT.sq {K : PySem.W.Frag} {a : Addr} (h : EmT K a) (H : Hp) : SqT K H a [] := .inr h
/-- what may be handed to a maker: data, or a default () -/
def De (K : PySem.W.Frag) (S : List Addr) (H : Hp) (v : V) (d : PyData) : Prop := Dq S H v d ∨ (d = .tuple [] ∧ ∃ a, v = .ref a ∧ EmT K a)
inductive DeA (K : PySem.W.Frag) (S : List Addr) (H : Hp) : List V → List PyData → Prop
  | nil : DeA K S H [] []
  | cons {v : V} {vs : List V} {d : PyData} {ds : List PyData} : De K S H v d → DeA K S H vs ds → DeA K S H (v :: vs) (d :: ds)
section
variable {K : PySem.W.Frag} {S T : List Addr} {H H' : Hp} {v : V} {d : PyData} {vs : List V} {ds : List PyData}
theorem De.fr (h : De K S H v d) (e : Fr S H H') : De K S H' v d := h.imp (fun h => h.fr e) id
theorem De.mono (h : De K S H v d) (k : ∀ a, a ∈ T → a ∈ S) : De K T H v d := h.imp (fun h => h.mono k) id
theorem De.new {p : Addr} (h : De K S H v d) (e : H p = none) : De K (p :: S) H v d := h.imp (fun h => h.new e) id
theorem DeA.fr : ∀ {vs : List V} {ds : List PyData}, DeA K S H vs ds → Fr S H H' → DeA K S H' vs ds
  | _, _, .nil, _ => .nil
  | _, _, .cons h r, e => .cons (h.fr e) (DeA.fr r e)
theorem DeA.new {p : Addr} : ∀ {vs : List V} {ds : List PyData}, DeA K S H vs ds → H p = none → DeA K (p :: S) H vs ds
  | _, _, .nil, _ => .nil
  | _, _, .cons h r, e => .cons (h.new e) (DeA.new r e)
theorem DeA.consE (h : DeA K S H vs (d :: ds)) : ∃ v ws, vs = v :: ws ∧ De K S H v d ∧ DeA K S H ws ds := by
  cases h with
  | cons h r => exact ⟨_, _, rfl, h, r⟩
theorem DeA.nilE (h : DeA K S H vs []) : vs = [] := by cases h; rfl
theorem De.lst {xs : List PyData} (h : De K S H v (.list xs)) : Dq S H v (.list xs) := by
  rcases h with h | ⟨e, _⟩
  · exact h
  · cases e
theorem De.ofDq (h : Dq S H v d) : De K S H v d := .inl h
end
/-- the items of a list or a tuple -/
def sqI : PyData → Option (List PyData)
  | .list xs => some xs
  | .tuple xs => some xs
  | _ => none
theorem De.seq {K : PySem.W.Frag} {S : List Addr} {H : Hp} {v : V} {d : PyData} {xs : List PyData} (h : De K S H v d) (e : sqI d = some xs) :
    ∃ a vs, v = .ref a ∧ DqA S H vs xs ∧ (∀ H', Fr S H H' → SqL K H' a vs) ∨ (∃ a vs, v = .ref a ∧ DqA S H vs xs ∧ (∀ H', Fr S H H' → SqT K H' a vs)) := by
  rcases h with h | ⟨rfl, a, rfl, m⟩
  · cases h with
    | lst n q r => cases e; exact ⟨_, _, .inl ⟨rfl, r, fun H' f => SqL.of (f _ _ n q)⟩⟩
    | tup n q r => cases e; exact ⟨0, [], .inr ⟨_, _, rfl, r, fun H' f => SqT.of (f _ _ n q)⟩⟩
    | _ => cases e
  · cases e
    exact ⟨0, [], .inr ⟨a, [], rfl, .nil, fun H' f => m.sq H'⟩⟩
/-- a function of what may be handed to a maker -/
def spE (K : PySem.W.Frag) (f : List PyData → PyData → Prop) : Sp := fun vs H Q _ => ∃ S ds d, Al S H ∧ DeA K S H vs ds ∧ f ds d ∧ ∀ v H', Same H H' → Dq S H' v d → Q v H'
theorem spE_app {K : PySem.W.Frag} {f : List PyData → PyData → Prop} {vs : List V} {H : Hp} {Q : VK} {E : XK} (S : List Addr) (ds : List PyData) (d : PyData) (hS : Al S H) (hd : DeA K S H vs ds) (hf : f ds d) (q : ∀ v H', Same H H' → Dq S H' v d → Q v H') : spE K f vs H Q E :=
  ⟨S, ds, d, hS, hd, hf, q⟩
/-- an __init__: the new object's fields -/
def spI (K : PySem.W.Frag) (C : Addr) (f : List PyData → List (Str × PyData) → Prop) : Sp := fun vs H Q _ =>
  ∃ S x dx ws ds fs, vs = .ref x :: ws ∧ x ∈ S ∧ Al S H ∧ H x = some (.ins C dx []) ∧ DeA K S H ws ds ∧ f ds fs ∧ ∀ H' gs, Fr [x] H H' → H' x = some (.ins C dx gs) → DqN S H' gs fs → Q .non H'
theorem mk_app {K : PySem.W.Frag} {C : Addr} {f : List PyData → List (Str × PyData) → Prop} {ws : List V} {H : Hp} {Z : Addr → Hp → Prop} {E : XK} {gl : Addr → List V} (S : List Addr) (ds : List PyData) (fs : List (Str × PyData)) (hg : ∀ x, gl x = .ref x :: ws) (hS : Al S H) (hd : DeA K S H ws ds) (hf : f ds fs)
    (q : ∀ x H', Same H H' → Dq S H' (.ref x) (insD C fs) → Z x H') :
    ∀ x dx, H x = none → H dx = none → dx ≠ x → spI K C f (gl x) (upd (upd H dx (.own x)) x (.ins C dx [])) (fun v H3 => v = .non ∧ Z x H3) E := by
  intro x dx h1 h2 h3
  have s1 : Same H (upd H dx (.own x)) := Fl.Same.new h2
  have h1' : upd H dx (.own x) x = none := by rw [upd_ne (Ne.symm h3)]; exact h1
  have s2 : Same H (upd (upd H dx (.own x)) x (.ins C dx [])) := L2.Same.trans s1 (Fl.Same.new h1')
  have al : Al (x :: S) (upd (upd H dx (.own x)) x (.ins C dx [])) := .cons (by rw [upd_same]; simp) (hS.same s2)
  rw [hg]
  refine ⟨x :: S, x, dx, ws, ds, fs, rfl, by simp, al, upd_same, (hd.new h1).fr (Fr.same s2), hf, fun H' gs f' e n => ⟨rfl, ?_⟩⟩
  have sm : Same H H' := fun a o e2 => f' a o (by simp; intro z; rw [z, h1] at e2; cases e2) (s2 a o e2)
  exact q x H' sm (Dq.insI (hS.ni h1) e (n.mono fun a m => List.mem_cons_of_mem _ m))

/-! ### comprehensions over tuples -/
section
variable {S : List Addr} {H1 : Hp} {K : PySem.W.Frag} {g : TG} {tt : TT} {te : TE} {vs : List Nat} {σ : L2.St} {Q : VK}
theorem lc_tupP {a : Addr} {xs : List V} {D : Addr} {Qd : Hp → Prop} (Pv : Nat → Hp → Prop) (h0 : Pv 0 (upd H1 D (.lst [])))
    (hl : ∀ i H, i ≤ xs.length → Pv i H → SqT K H a xs)
    (hs : ∀ i x H, xs[i]? = some x → Pv i H → g x (wipe σ vs) H fun σ2 H2 => wipe σ2 vs = wipe σ vs ∧ tt σ2 H2 fun b H3 =>
        if b = true then te σ2 H3 fun y H4 => ∃ acc, H4 D = some (.lst acc) ∧ acc.length < sizeLine ∧ Pv (i + 1) (upd H4 D (.lst (acc ++ [y]))) else Pv (i + 1) H3)
    (hd : ∀ H, Pv xs.length H → Qd H) :
    ∃ W : Nat → Nat → Hp → Prop, (∃ m, W 0 m (upd H1 D (.lst []))) ∧ ∀ i m H, W i m H →
      ((Itt K a).stop i H ∧ Qd H) ∨ ((Itt K a).go i H ∧ ∃ Nx : Hp → Prop, (∀ H', Nx H' → ∃ m', m' < m ∧ W (i + 1) m' H') ∧
        ∀ x H', (Itt K a).yld i H x H' → g x (wipe σ vs) H' fun σ2 H2 => wipe σ2 vs = wipe σ vs ∧ tt σ2 H2 fun b H3 =>
          if b = true then te σ2 H3 fun y H4 => ∃ acc, H4 D = some (.lst acc) ∧ acc.length < sizeLine ∧ Nx (upd H4 D (.lst (acc ++ [y]))) else Nx H3) := by
  refine ⟨fun i m H => m = xs.length - i ∧ i ≤ xs.length ∧ Pv i H, ⟨xs.length, rfl, Nat.zero_le _, h0⟩, fun i m H h => ?_⟩
  obtain ⟨rfl, hi, p⟩ := h
  have q := hl i H hi p
  by_cases hlt : i < xs.length
  · refine .inr ⟨⟨xs, xs[i], q, by simp [hlt]⟩, Pv (i + 1), fun H' p' => ⟨xs.length - (i + 1), by omega, rfl, hlt, p'⟩, fun x H' y => ?_⟩
    obtain ⟨rfl, y⟩ := y
    exact hs i x H' (y xs q) p
  · have e : i = xs.length := by omega
    subst e
    exact .inl ⟨⟨xs, q, Nat.le_refl _⟩, hd H p⟩
/-- [elt for x in t if test], t a list or a tuple; nothing changed -/
theorem lcS {wi : TE} {v : V} {d : PyData} {es : List PyData} (f : Nat → Option PyData) (hS : Al S H1) (ha : De K S H1 v d) (he : sqI d = some es) (hz : es.length < 1000)
    (hv : ∀ R : VK, R v H1 → wi σ H1 R)
    (step : ∀ (D : Addr) (i : Nat) (x : V) (e : PyData) (H : Hp), H1 D = none → es[i]? = some e → Same H1 H → Al (D :: S) H → Dq (D :: S) H x e →
      ∀ (R : V → Hp → Prop) (N : Hp → Prop), (∀ r y H4, f i = some r → Same H H4 → Dq (D :: S) H4 y r → R y H4) → (f i = none → ∀ H4, Same H H4 → N H4) →
      g x (wipe σ vs) H fun σ2 H2 => wipe σ2 vs = wipe σ vs ∧ tt σ2 H2 fun b H3 => if b = true then te σ2 H3 R else N H3)
    (q : ∀ (D : Addr) (H : Hp), Same H1 H → H1 D = none → Dq S H (.ref D) (.list ((List.range es.length).filterMap f)) → Q (.ref D) H) :
    iOr (iList K wi) (iTup K wi) σ H1 fun J H1 => lcK J g tt te vs σ H1 Q := by
  obtain ⟨a, xs, h | h⟩ := ha.seq he
  · obtain ⟨rfl, hall, hsq⟩ := h
    refine .inl (hv _ ⟨a, rfl, ⟨xs, hsq H1 Fr.refl⟩, ?_⟩)
    unfold lcK
    intro D hD
    have hlx := hall.len
    have hfr : ∀ H, Fr [D] H1 H → Fr S H1 H := fun H f b o n e => f b o (by simp; intro z; rw [z, hD] at e; cases e) e
    refine lc_list (xs := xs) (CompAt S H1 D f) (CompAt.zero hD) (fun i H _ h => hsq H (hfr H h.fr)) ?_ ?_
    · intro i x H hx h
      have hlt : i < xs.length := (List.getElem?_eq_some_iff.mp hx).1
      have hsm : Same H1 H := sm_of hD h.fr
      obtain ⟨e, he, hxe⟩ := ((hall.new hD).same hsm).get hx
      exact step D i x e H hD he hsm (h.al hS hD) hxe _ _ (fun r y H4 er s d => h.put (by omega) er s d) fun en H4 s => (h.same s).skip en
    · intro H h
      rw [hlx] at h
      exact q D H (sm_of hD h.fr) hD (h.fin hS hD)
  · obtain ⟨a, xs, rfl, hall, hsq⟩ := h
    refine .inr (hv _ ⟨a, rfl, ⟨xs, hsq H1 Fr.refl⟩, ?_⟩)
    unfold lcK
    intro D hD
    have hlx := hall.len
    have hfr : ∀ H, Fr [D] H1 H → Fr S H1 H := fun H f b o n e => f b o (by simp; intro z; rw [z, hD] at e; cases e) e
    refine lc_tupP (xs := xs) (CompAt S H1 D f) (CompAt.zero hD) (fun i H _ h => hsq H (hfr H h.fr)) ?_ ?_
    · intro i x H hx h
      have hlt : i < xs.length := (List.getElem?_eq_some_iff.mp hx).1
      have hsm : Same H1 H := sm_of hD h.fr
      obtain ⟨e, he, hxe⟩ := ((hall.new hD).same hsm).get hx
      exact step D i x e H hD he hsm (h.al hS hD) hxe _ _ (fun r y H4 er s d => h.put (by omega) er s d) fun en H4 s => (h.same s).skip en
    · intro H h
      rw [hlx] at h
      exact q D H (sm_of hD h.fr) hD (h.fin hS hD)
end
end Fl

set_option Elab.async false
set_option linter.all false
set_option maxRecDepth 100000
set_option maxHeartbeats 4000000
set_option exponentiation.threshold 20000
/-! what fonts consist of -/
namespace Fl
open PySem PySem.Spec PyProof.Rows L2
/-! ### readings of fields -/
section
variable {K : PySem.W.Frag} {σ : L2.St} {H : Hp} {Q : VK} {ta tv : TE} {f : Str} {D : Ends} {a C dx : Addr} {fs : List (Str × V)} {v y : V} {l : List Str}
theorem g_fld (h : ta σ H fun x H1 => ∃ a C dx fs v, x = .ref a ∧ H1 a = some (.ins C dx fs) ∧ Cls K C ∧ NoAttr K C f ∧ fs.lookup f = some v ∧ Q v H1) : tFld K ta f σ H Q := h
theorem g_fldE {Z : V → Prop} (h : H a = some (.ins C dx fs)) (c : Cls K C) (n : NoAttr K C f) (e : fs.lookup f = some v) (q : Z v) : ∃ a' C' dx' fs' v', V.ref a = .ref a' ∧ H a' = some (.ins C' dx' fs') ∧ Cls K C' ∧ NoAttr K C' f ∧ fs'.lookup f = some v' ∧ Z v' := ⟨a, C, dx, fs, v, rfl, h, c, n, e, q⟩
theorem g_sf (h : tv σ H fun y H1 => ta σ H1 fun x H2 => ∃ a C dx fs, x = .ref a ∧ H2 a = some (.ins C dx fs) ∧ Cls K C ∧ NoAttr K C f ∧ fs.length < 1000 ∧ D.nx σ (upd H2 a (.ins C dx (putF f y fs)))) : sFld K ta tv f D σ H := h
theorem g_sfE {Z : Hp → Prop} (h : H a = some (.ins C dx fs)) (c : Cls K C) (n : NoAttr K C f) (e : fs.length < 1000) (q : Z (upd H a (.ins C dx (putF f y fs)))) : ∃ a' C' dx' fs', V.ref a = .ref a' ∧ H a' = some (.ins C' dx' fs') ∧ Cls K C' ∧ NoAttr K C' f ∧ fs'.length < 1000 ∧ Z (upd H a' (.ins C' dx' (putF f y fs'))) := ⟨a, C, dx, fs, rfl, h, c, n, e, q⟩
theorem na_of (h : ∀ f, f ∈ l → NoAttr K C f) (m : l.contains f = true) : NoAttr K C f := h f (List.contains_iff_mem.mp m)
theorem putF_new : ∀ {fs : List (Str × V)}, (fs.map Prod.fst).contains f = false → putF f y fs = fs ++ [(f, y)]
  | [], _ => rfl
  | (g, z) :: fs, h => by
    simp only [List.map_cons, List.contains_cons, Bool.or_eq_false_iff] at h
    unfold putF
    rw [putF_new h.2]
    have e : ¬ g = f := fun e => by
      rw [e] at h
      simp at h
    simp [e]
end
/-- a new object x while its fields are being set -/
structure InitAt (S : List Addr) (x C dx : Addr) (H0 H : Hp) (gs : List (Str × V)) (fs : List (Str × PyData)) : Prop where
  fr : Fr [x] H0 H
  hx : H x = some (.ins C dx gs)
  dq : DqN S H gs fs
  al : Al S H
  mem : x ∈ S
section
variable {K : PySem.W.Frag} {S : List Addr} {x C dx : Addr} {H0 H H' : Hp} {gs : List (Str × V)} {fs : List (Str × PyData)} {f : Str} {v : V} {d : PyData}
theorem InitAt.start (hx : H x = some (.ins C dx [])) (al : Al S H) (m : x ∈ S) : InitAt S x C dx H H [] [] := ⟨Fr.refl, hx, .nil, al, m⟩
theorem InitAt.same (I : InitAt S x C dx H0 H gs fs) (e : Same H H') : InitAt S x C dx H0 H' gs fs := ⟨I.fr.trans (Fr.same e), e _ _ I.hx, I.dq.fr (Fr.same e), I.al.same e, I.mem⟩
theorem InitAt.put (I : InitAt S x C dx H0 H gs fs) (hv : Dq S H v d) (f : Str) (hn : (gs.map Prod.fst).contains f = false) : InitAt S x C dx H0 (upd H x (.ins C dx (putF f v gs))) (gs ++ [(f, v)]) (fs ++ [(f, d)]) := by
  rw [putF_new hn]
  have u : Fr S H (upd H x (.ins C dx (gs ++ [(f, v)]))) := Fr.upd I.mem
  refine ⟨I.fr.trans (Fr.upd (by simp)), upd_same, (I.dq.fr u).app (.cons (hv.fr u) .nil), ?_, I.mem⟩
  intro b m q
  by_cases hb : b = x
  · rw [hb, upd_same] at q; cases q
  · rw [upd_ne hb] at q; exact I.al b m q
theorem InitAt.dqO (I : InitAt S x C dx H0 H gs fs) (h : Dq S H0 v d) : Dq S H v d := h.fr (I.fr.mono fun a m => by rw [show a = x by simpa using m]; exact I.mem)
theorem InitAt.deO (I : InitAt S x C dx H0 H gs fs) (h : De K S H0 v d) : De K S H v d := h.fr (I.fr.mono fun a m => by rw [show a = x by simpa using m]; exact I.mem)
theorem De.dq (h : De K S H v d) (n : d ≠ .tuple []) : Dq S H v d := by
  rcases h with h | ⟨e, _⟩
  · exact h
  · exact absurd e n
end
/-! ### sequences of data -/
def Sq1 (d : PyData) (L : List PyData) : Prop := sqI d = some L ∧ L.length < 1000
def Sq2 (d : PyData) (L : List (List PyData)) : Prop := ∃ xs, sqI d = some xs ∧ xs.map sqI = L.map some ∧ L.length < 1000
def Sq3 (d : PyData) (L : List (List (List PyData))) : Prop := ∃ xs, sqI d = some xs ∧ xs.length = L.length ∧ (∀ (i : Nat) x l, xs[i]? = some x → L[i]? = some l → Sq2 x l) ∧ L.length < 1000
def ltD (L : List (List PyData)) : PyData := .list (L.map .tuple)
def llD (L : List (List PyData)) : PyData := .list (L.map .list)
def ouD3 (L : List (List (List PyData))) : PyData := .list (L.map ltD)
section
variable {L : List (List PyData)} {M : List (List (List PyData))} {l : List PyData}
theorem Sq1.ls (h : l.length < 1000) : Sq1 (.list l) l := ⟨rfl, h⟩
theorem Sq1.e : Sq1 (.tuple []) [] := ⟨rfl, by decide⟩
theorem Sq2.lt (h : L.length < 1000) : Sq2 (ltD L) L := ⟨_, rfl, by rw [List.map_map]; rfl, h⟩
theorem Sq2.ll (h : L.length < 1000) : Sq2 (llD L) L := ⟨_, rfl, by rw [List.map_map]; rfl, h⟩
theorem Sq2.e : Sq2 (.tuple []) [] := ⟨[], rfl, rfl, by decide⟩
theorem Sq3.ou (h : M.length < 1000) (k : ∀ c, c ∈ M → c.length < 1000) : Sq3 (ouD3 M) M := by
  refine ⟨_, rfl, by rw [List.length_map], fun i x l e1 e2 => ?_, h⟩
  rw [List.getElem?_map, e2] at e1
  cases e1
  exact Sq2.lt (k l (List.mem_of_getElem? e2))
theorem Sq3.e : Sq3 (.tuple []) [] := ⟨[], rfl, rfl, fun i x l e1 _ => by simp at e1, by decide⟩
theorem Sq3.le : Sq3 (.list []) [] := ⟨[], rfl, rfl, fun i x l e1 _ => by simp at e1, by decide⟩
theorem Sq2.le : Sq2 (.list []) [] := ⟨[], rfl, rfl, by decide⟩
theorem fm_ltA {α : Type} {L : List α} {f : α → PyData} {n : Nat} (h : n = L.length) : (List.range n).filterMap (fun i => (L[i]?).map f) = L.map f := by
  subst h
  have e : (fun i : Nat => (L[i]?).map f) = fun i => (L.map f)[i]? := funext fun i => by rw [List.getElem?_map]
  rw [e]
  have := fm_map (es := L.map f) (rs := L.map f) rfl
  rwa [List.length_map] at this
theorem sq2_at {xs : List PyData} {i : Nat} {e : PyData} (h : xs.map sqI = L.map some) (he : xs[i]? = some e) : ∃ l, L[i]? = some l ∧ sqI e = some l := by
  have : (xs.map sqI)[i]? = (L.map some)[i]? := by rw [h]
  rw [List.getElem?_map, List.getElem?_map, he] at this
  cases hl : L[i]? with
  | none => rw [hl] at this; cases this
  | some l => rw [hl] at this; exact ⟨l, rfl, by simpa using this⟩
theorem sq2_len {xs : List PyData} (h : xs.map sqI = L.map some) : xs.length = L.length := by
  have := congrArg List.length h
  simpa using this
end
def fTof (ds : List PyData) (d : PyData) : Prop := ∃ r L, ds = [r] ∧ Sq2 r L ∧ d = ltD L
theorem DqN.consE {S : List Addr} {H : Hp} {n : Str} {d : PyData} {fs : List (Str × V)} {ds : List (Str × PyData)} (h : DqN S H fs ((n, d) :: ds)) : ∃ v gs, fs = (n, v) :: gs ∧ Dq S H v d ∧ DqN S H gs ds := by
  cases h with
  | cons h r => exact ⟨_, _, rfl, h, r⟩
theorem DqN.nilE {S : List Addr} {H : Hp} {fs : List (Str × V)} (h : DqN S H fs []) : fs = [] := by cases h; rfl
theorem lstOf_de {K : PySem.W.Frag} {S : List Addr} {H : Hp} {v : V} {e : PyData} {l : List PyData} {Q : VK} (al : Al S H) (h : De K S H v e) (hl : sqI e = some l) (q : ∀ p H', Same H H' → Dq S H' (.ref p) (.list l) → Q (.ref p) H') : rLstOf K [v] H Q := by
  obtain ⟨a, zs, h | h⟩ := h.seq hl
  · obtain ⟨rfl, hA, hs⟩ := h
    exact ⟨a, zs, rfl, .inl (hs _ Fr.refl), fun p hp => q p _ (Fl.Same.new hp) (Dq.newL al hp hA)⟩
  · obtain ⟨a, zs, rfl, hA, hs⟩ := h
    exact ⟨a, zs, rfl, .inr (hs _ Fr.refl), fun p hp => q p _ (Fl.Same.new hp) (Dq.newL al hp hA)⟩
theorem lstOf_app {K : PySem.W.Frag} {S : List Addr} {H : Hp} {v : V} {e : PyData} {l : List PyData} {Q : VK} (al : Al S H) (h : Dq S H v e) (hl : sqI e = some l) (q : ∀ p H', Same H H' → Dq S H' (.ref p) (.list l) → Q (.ref p) H') : rLstOf K [v] H Q := lstOf_de al (.inl h) hl q
theorem g_make {C : Addr} {n m : Nat} {sp : Sp} {gV : List V → List V → List V} {E : XK} {t tk : TA} {σ : L2.St} {H : Hp} {Q : VK}
    (h : t σ H fun vs H1 => tk σ H1 fun zs H2 => vs.length = n ∧ zs.length = m ∧ ∀ x dx, H2 x = none → H2 dx = none → dx ≠ x → sp (gV (.ref x :: vs) zs) (upd (upd H2 dx (.own x)) x (.ins C dx [])) (fun v H3 => v = .non ∧ Q (.ref x) H3) E) : tMakeK C n m sp gV E t tk σ H Q := h
theorem g_mk {A B C : Prop} (h1 : A) (h2 : B) (h3 : C) : A ∧ B ∧ C := ⟨h1, h2, h3⟩
/-! ### the parts of a font -/
structure GlR where
  adv : PyData
  outl : List (List (List PyData))
  parts : List (List PyData)
  anch : List (List PyData)
  mark : PyData
  deltas : List (List PyData)
  hint : List (List PyData)
structure RuR where
  inside : List (List PyData)
  back : List (List PyData)
  ahead : List (List PyData)
  out : List PyData
  calls : List (List PyData)
  extra : PyData
structure LkR where
  kind : PyData
  rules : List RuR
  ign : PyData
def GlR.F (g : GlR) : List (Str × PyData) := [("advance", g.adv), ("outline", ouD3 g.outl), ("parts", ltD g.parts), ("anchors", ltD g.anch), ("mark", g.mark), ("deltas", ltD g.deltas), ("hint", ltD g.hint)]
def RuR.F (r : RuR) : List (Str × PyData) := [("inside", llD r.inside), ("back", llD r.back), ("ahead", llD r.ahead), ("out", .list r.out), ("calls", ltD r.calls), ("extra", r.extra)]
def LkR.F (C : Addr) (k : LkR) : List (Str × PyData) := [("kind", k.kind), ("rules", .list (k.rules.map fun r => insD C r.F)), ("ignore", k.ign)]
structure GlR.ok (g : GlR) : Prop where
  a : g.adv ≠ .tuple []
  m : g.mark ≠ .tuple []
  o : g.outl.length < 1000
  c : ∀ c, c ∈ g.outl → c.length < 1000
  p : g.parts.length < 1000
  n : g.anch.length < 1000
  d : g.deltas.length < 1000
  h : g.hint.length < 1000
structure RuR.ok (x : RuR) : Prop where
  i : x.inside.length < 1000
  b : x.back.length < 1000
  a : x.ahead.length < 1000
  o : x.out.length < 1000
  c : x.calls.length < 1000
  e : x.extra ≠ .tuple []
structure LkR.ok (x : LkR) : Prop where
  k : x.kind ≠ .tuple []
  r : x.rules.length < 1000
  ro : ∀ r, r ∈ x.rules → RuR.ok r
  g : x.ign ≠ .tuple []
/-- what Glyph is called with -/
def fGl (ds : List PyData) (fs : List (Str × PyData)) : Prop := ∃ (o p n d h : PyData) (g : GlR), ds = [g.adv, o, p, n, g.mark, d, h] ∧ g.ok ∧ Sq3 o g.outl ∧ Sq2 p g.parts ∧ Sq2 n g.anch ∧ Sq2 d g.deltas ∧ Sq2 h g.hint ∧ fs = g.F
def fRu (ds : List PyData) (fs : List (Str × PyData)) : Prop := ∃ (i b a o c : PyData) (r : RuR), ds = [i, b, a, o, c, r.extra] ∧ r.ok ∧ Sq2 i r.inside ∧ Sq2 b r.back ∧ Sq2 a r.ahead ∧ Sq1 o r.out ∧ Sq2 c r.calls ∧ fs = r.F
def fLk (CR : Addr) (ds : List PyData) (fs : List (Str × PyData)) : Prop := ∃ (k : LkR) (rs : PyData), ds = [k.kind, rs, k.ign] ∧ k.ok ∧ sqI rs = some (k.rules.map fun r => insD CR r.F) ∧ fs = k.F CR
def fCg (CG : Addr) (ds : List PyData) (d : PyData) : Prop := ∃ g : GlR, g.ok ∧ ds = [insD CG g.F] ∧ d = insD CG g.F
def fCr (CR : Addr) (ds : List PyData) (d : PyData) : Prop := ∃ r : RuR, r.ok ∧ ds = [insD CR r.F] ∧ d = insD CR r.F
def fCl (CR CL : Addr) (ds : List PyData) (d : PyData) : Prop := ∃ k : LkR, k.ok ∧ ds = [insD CL (k.F CR)] ∧ d = insD CL (k.F CR)
/-- lcs_done: a walk over items of one kind, each copied -/
theorem at_map {α : Type} {L : List α} {f : α → PyData} {i : Nat} {e : PyData} (h : (L.map f)[i]? = some e) : ∃ x, L[i]? = some x ∧ e = f x := by
  rw [List.getElem?_map] at h
  cases hl : L[i]? with
  | none => rw [hl] at h; cases h
  | some x => rw [hl] at h; exact ⟨x, rfl, by simpa using h.symm⟩
/-! ### whole fonts -/
structure FoR where
  unit : PyData
  glyphs : List GlR
  chars : List (List PyData)
  lookups : List LkR
  features : List (PyData × List PyData)
  axes : List (List PyData)
  regions : List (List (List PyData))
  functions : List (List (List PyData))
  presets : List PyData
structure Cs where
  G : Addr
  R : Addr
  L : Addr
  F : Addr
def glD (c : Cs) (g : GlR) : PyData := insD c.G g.F
def lkD (c : Cs) (k : LkR) : PyData := insD c.L (k.F c.R)
def feD (f : PyData × List PyData) : PyData := .tuple [f.1, .list f.2]
def FoR.F (c : Cs) (f : FoR) : List (Str × PyData) := [("unit", f.unit), ("glyphs", .list (f.glyphs.map (glD c))), ("chars", ltD f.chars), ("lookups", .list (f.lookups.map (lkD c))), ("features", .list (f.features.map feD)), ("axes", ltD f.axes), ("regions", ouD3 f.regions), ("functions", ouD3 f.functions), ("presets", .list f.presets)]
def foD (c : Cs) (f : FoR) : PyData := insD c.F (f.F c)
structure FoR.ok (x : FoR) : Prop where
  u : x.unit ≠ .tuple []
  g : x.glyphs.length < 1000
  go : ∀ g, g ∈ x.glyphs → GlR.ok g
  c : x.chars.length < 1000
  l : x.lookups.length < 1000
  lo : ∀ k, k ∈ x.lookups → LkR.ok k
  f : x.features.length < 1000
  a : x.axes.length < 1000
  r : x.regions.length < 1000
  n : x.functions.length < 1000
  p : x.presets.length < 1000
/-- the pairs of features as they are handed in: a pair of a name and a list or tuple -/
def SqF (d : PyData) (L : List (PyData × List PyData)) : Prop := ∃ xs, sqI d = some xs ∧ xs.length = L.length ∧ (∀ (i : Nat) x (l : PyData × List PyData), xs[i]? = some x → L[i]? = some l → ∃ m, x = .tuple [l.1, m] ∧ Sq1 m l.2) ∧ L.length < 1000
theorem SqF.e : SqF (.tuple []) [] := ⟨[], rfl, rfl, fun i x l e1 _ => by simp at e1, by decide⟩
def fFf (c : Cs) (V : FoR → Prop) (ds : List PyData) (d : PyData) : Prop := ∃ f : FoR, V f ∧ ds = [foD c f] ∧ d = .none
def fFo (c : Cs) (V : FoR → Prop) (ds : List PyData) (fs : List (Str × PyData)) : Prop := ∃ (gs ch ls fe ax re fn pr : PyData) (f : FoR), ds = [f.unit, gs, ch, ls, fe, ax, re, fn, pr] ∧ f.ok ∧ V f ∧
  sqI gs = some (f.glyphs.map (glD c)) ∧ Sq2 ch f.chars ∧ sqI ls = some (f.lookups.map (lkD c)) ∧ SqF fe f.features ∧ Sq2 ax f.axes ∧ Sq3 re f.regions ∧ Sq3 fn f.functions ∧ Sq1 pr f.presets ∧ fs = f.F c
theorem InitAt.fin {S : List Addr} {x C dx : Addr} {H0 H : Hp} {gs : List (Str × V)} {fs : List (Str × PyData)} (I : InitAt S x C dx H0 H gs fs) : Al (S.filter fun a => a ≠ x) H ∧ Dq (S.filter fun a => a ≠ x) H (.ref x) (insD C fs) := by
  refine ⟨fun a m => I.al a ((List.mem_filter.mp m).1), Dq.insI (by simp) I.hx (I.dq.mono fun a m => (List.mem_filter.mp m).1)⟩
end Fl

set_option Elab.async false
set_option linter.all false
set_option maxRecDepth 100000
set_option maxHeartbeats 4000000
set_option exponentiation.threshold 20000
/-! own errors with one field, a text -/
namespace Fl
open PySem PySem.Spec PyProof.Rows L2
/-- an own error class, made with a text that it keeps as f -/
structure Cls1 (K : PySem.W.Frag) (mg : Str → Option Value) (x qual : Str) (st : Stmt) (f : Str) : Prop where
  g : mg x = some (.ref (adr mg x))
  o : OexC K (adr mg x)
  n : PySem.W.findIn K (.ref (adr mg x)) f = some none
  i : ∃ (fI : Addr) (fd : FuncData), PySem.W.findIn K (.ref (adr mg x)) "__init__" = some (some (.ref fI)) ∧ PySem.W.typeIn K (.ref fI) = some (.type "function") ∧ Fun K "__init__" qual st fI fd
def spIni1 (C : Addr) (f : Str) : Sp := fun vs H Q _ => ∃ (a : Addr) (s : Str), vs = [.ref a, .str s] ∧ s.length ≤ 1000 ∧ H a = some (exo a C none) ∧ ∀ dx, H dx = none → dx ≠ a → Q .non (upd (upd H dx (exd dx [(f, .str s)])) a (exo a C (some dx)))
structure MkX1 (P : Program) (w : World) (K : PySem.W.Frag) (mg : Str → Option Value) (base : Heap) (k : Nat) (x f : Str) (ps : List Str) : Prop where
  g : mg x = some (.ref (adr mg x))
  o : OexC K (adr mg x)
  i : ∃ (fI : Addr) (fd : FuncData), PySem.W.findIn K (.ref (adr mg x)) "__init__" = some (some (.ref fI)) ∧ PySem.W.typeIn K (.ref fI) = some (.type "function") ∧ FnOk P w K mg base L2.CX0 k fI fd ps (spIni1 (adr mg x) f) ∧ L2.Binds K fd ps []
def tRaise1 (W : WX) (C : Addr) (f : Str) (ta : TA) : TS := fun _ σ H => tMkO C (spIni1 C f) [] ta σ H fun cls d H' => W cls d σ H'
theorem ps_raise1 {X : Cx} {W : WX} {k : Nat} {x f : Str} {ps : List Str} {e : Expr} {ta : TA} {p pos pos2 : Pos} (M : MkX1 X.prog X.w X.K X.mg X.base k x f ps) (hc : X.calm = true) (hr : Room (k + 1) X.A) (tk : Takes X W) (ha : PA X [e] ta) (hg : Gl X x := by rfl) (hdb : (x == ("__debug__" : Str)) = false := by decide)
    (he : starEach [e] X.env = (false, eval e X.env) :: starEach [] X.env := by rfl) (hpl : (backTo pos (starEach [] X.env)).any (·.1) = false := by rfl) :
    PS X (.Raise (some (.Call (.Name x p) [e] [] pos)) none pos2) (tRaise1 W (adr X.mg x) f ta) := by
  obtain ⟨fI, fd, iC, tI, F, b⟩ := M.i
  exact ⟨fun pins s σ H D I h => (ps_raise hc tk (pmk_oex (CX := L2.CX0) M.o iC tI F hr b .nil (fun _ _ _ _ _ _ _ z => z.elim) hg M.g ha hdb he hpl)).run pins s σ H D I h⟩
theorem g_raise1 {W : WX} {C : Addr} {f s : Str} {D : Ends} {σ : L2.St} {H : Hp} (hs : s.length ≤ 1000) (h : ∀ dx, H dx = none → W (.ref C) (some dx) σ (upd H dx (.xd [(f, .str s)]))) : tRaise1 W C f (tCons (tC (.str s)) tNil) D σ H := by
  refine ⟨by simp, fun a ha => ⟨a, s, rfl, hs, upd_same, fun dx hd hne => ⟨rfl, dx, [(f, .str s)], upd_same, by rw [upd_ne hne, upd_same], by rw [upd_ne hne] at hd; exact hd, ?_⟩⟩⟩
  rw [upd_ne hne] at hd
  have e : upd (del (upd (upd (upd H a (exo a C none)) dx (exd dx [(f, .str s)])) a (exo a C (some dx))) a) dx (.xd [(f, .str s)]) = upd H dx (.xd [(f, .str s)]) := by
    funext b
    by_cases h1 : b = dx
    · rw [h1, upd_same, upd_same]
    · rw [upd_ne h1, upd_ne h1]
      by_cases h2 : b = a
      · rw [h2, del_same, ha]
      · rw [del_ne h2, upd_ne h2, upd_ne h1, upd_ne h2]
  rw [e]
  exact h dx hd
section
variable {P : Program} {w : World} {K : PySem.W.Frag} {mg : Str → Option Value} {base : Heap}
theorem mkX1_of {x qual f : Str} {st : Stmt} {k : Nat} {N ps : List Str} (C : Cls1 K mg x qual st f) (hps : ps.length = 2) (S : FnScope N ps (defScope st))
    (hb : ∀ (kV doc pm : Value) (an : Option Addr) (cdv ct : Value) (us : List Value), us.length = ps.length → bindArgs (PySem.W.fnOf "__init__" qual (defArgs st) (defBody st) (defScope st) .none kV doc pm an cdv ct) ⟨us, []⟩ = pure (ps.zip us))
    (hbody : ∀ (fa : Addr) (cdv : Value) (A : Around) (outer : List Env) (s : Shared) (H : Hp) (a : Addr) (y : Str) (Q : VK) (E : XK), Room k (A.deeper (envOfC qual (defScope st) s.heap.objs.size fa cdv)) → y.length ≤ 1000 → H a = some (exo a (adr mg x) none) →
      (∀ dx, H dx = none → dx ≠ a → Q .non (upd (upd H dx (exd dx [(f, .str y)])) a (exo a (adr mg x) (some dx)))) →
      ∃ t, PSs (cxOf L2.CX0 P w K mg base N qual (defScope st) fa cdv A outer s H E).nox (defBody st) t ∧ t { nx := fun _ H' => Q .non H', rt := Q } (start N [.ref a, .str y]) H) : MkX1 P w K mg base (k + 1) x f ps := by
  obtain ⟨fI, fd, iC, tI, F⟩ := C.i
  refine ⟨C.g, C.o, fI, fd, iC, tI, F.ok S (fun vs H Q E ⟨a, y, e, _⟩ => by rw [e, hps]; rfl) fun cdv A outer s H vs Q E hr ⟨a, y, e, hy, h, q⟩ => ?_, F.binds hb⟩
  subst e
  exact hbody fI cdv A outer s H a y Q E hr hy h q
end
end Fl

set_option Elab.async false
set_option linter.all false
set_option maxRecDepth 100000
set_option maxHeartbeats 4000000
set_option exponentiation.threshold 20000
/-! own errors with two fields, numbers -/
namespace Fl
open PySem PySem.Spec PyProof.Rows L2
/-- an own error class, made with two numbers that it keeps as f and g -/
structure Cls2 (K : PySem.W.Frag) (mg : Str → Option Value) (x qual : Str) (st : Stmt) (f f2 : Str) : Prop where
  g : mg x = some (.ref (adr mg x))
  o : OexC K (adr mg x)
  n : PySem.W.findIn K (.ref (adr mg x)) f = some none
  m : PySem.W.findIn K (.ref (adr mg x)) f2 = some none
  r : XfC K (adr mg x)
  i : ∃ (fI : Addr) (fd : FuncData), PySem.W.findIn K (.ref (adr mg x)) "__init__" = some (some (.ref fI)) ∧ PySem.W.typeIn K (.ref fI) = some (.type "function") ∧ Fun K "__init__" qual st fI fd
def spIni2 (C : Addr) (f f2 : Str) : Sp := fun vs H Q _ => ∃ (a : Addr) (i j : Int), vs = [.ref a, .int i, .int j] ∧ i.natAbs < 10000 ∧ j.natAbs < 10000 ∧ H a = some (exo a C none) ∧ ∀ dx, H dx = none → dx ≠ a → Q .non (upd (upd (upd H dx (exd dx [(f, .int i)])) a (exo a C (some dx))) dx (exd dx [(f2, .int j), (f, .int i)]))
structure MkX2 (P : Program) (w : World) (K : PySem.W.Frag) (mg : Str → Option Value) (base : Heap) (k : Nat) (x f f2 : Str) (ps : List Str) : Prop where
  g : mg x = some (.ref (adr mg x))
  o : OexC K (adr mg x)
  i : ∃ (fI : Addr) (fd : FuncData), PySem.W.findIn K (.ref (adr mg x)) "__init__" = some (some (.ref fI)) ∧ PySem.W.typeIn K (.ref fI) = some (.type "function") ∧ FnOk P w K mg base L2.CX0 k fI fd ps (spIni2 (adr mg x) f f2) ∧ L2.Binds K fd ps []
def tRaise2 (W : WX) (C : Addr) (f f2 : Str) (ta : TA) : TS := fun _ σ H => tMkO C (spIni2 C f f2) [] ta σ H fun cls d H' => W cls d σ H'
theorem ps_raise2 {X : Cx} {W : WX} {k : Nat} {x f f2 : Str} {ps : List Str} {e e2 : Expr} {ta : TA} {p pos pos2 : Pos} (M : MkX2 X.prog X.w X.K X.mg X.base k x f f2 ps) (hc : X.calm = true) (hr : Room (k + 1) X.A) (tk : Takes X W) (ha : PA X [e, e2] ta) (hg : Gl X x := by rfl) (hdb : (x == ("__debug__" : Str)) = false := by decide)
    (he : starEach [e, e2] X.env = (false, eval e X.env) :: starEach [e2] X.env := by rfl) (hpl : (backTo pos (starEach [e2] X.env)).any (·.1) = false := by rfl) :
    PS X (.Raise (some (.Call (.Name x p) [e, e2] [] pos)) none pos2) (tRaise2 W (adr X.mg x) f f2 ta) := by
  obtain ⟨fI, fd, iC, tI, F, b⟩ := M.i
  exact ⟨fun pins s σ H D I h => (ps_raise hc tk (pmk_oex (CX := L2.CX0) M.o iC tI F hr b .nil (fun _ _ _ _ _ _ _ z => z.elim) hg M.g ha hdb he hpl)).run pins s σ H D I h⟩
theorem g_raise2 {W : WX} {C : Addr} {f f2 : Str} {i j : Int} {D : Ends} {σ : L2.St} {H : Hp} (hi : i.natAbs < 10000) (hj : j.natAbs < 10000) (h : ∀ dx, H dx = none → W (.ref C) (some dx) σ (upd H dx (.xd [(f2, .int j), (f, .int i)]))) : tRaise2 W C f f2 (tCons (tC (.int i)) (tCons (tC (.int j)) tNil)) D σ H := by
  refine ⟨by simp, fun a ha => ⟨a, i, j, rfl, hi, hj, upd_same, fun dx hd hne => ⟨rfl, dx, [(f2, .int j), (f, .int i)], by rw [upd_ne (Ne.symm hne), upd_same], upd_same, by rw [upd_ne hne] at hd; exact hd, ?_⟩⟩⟩
  rw [upd_ne hne] at hd
  have e : upd (del (upd (upd (upd (upd H a (exo a C none)) dx (exd dx [(f, .int i)])) a (exo a C (some dx))) dx (exd dx [(f2, .int j), (f, .int i)])) a) dx (.xd [(f2, .int j), (f, .int i)]) = upd H dx (.xd [(f2, .int j), (f, .int i)]) := by
    funext b
    by_cases h1 : b = dx
    · rw [h1, upd_same, upd_same]
    · rw [upd_ne h1, upd_ne h1]
      by_cases h2 : b = a
      · rw [h2, del_same, ha]
      · rw [del_ne h2, upd_ne h1, upd_ne h2, upd_ne h1, upd_ne h2]
  rw [e]
  exact h dx hd
section
variable {P : Program} {w : World} {K : PySem.W.Frag} {mg : Str → Option Value} {base : Heap}
theorem mkX2_of {x qual f f2 : Str} {st : Stmt} {k : Nat} {N ps : List Str} (C : Cls2 K mg x qual st f f2) (hps : ps.length = 3) (S : FnScope N ps (defScope st))
    (hb : ∀ (kV doc pm : Value) (an : Option Addr) (cdv ct : Value) (us : List Value), us.length = ps.length → bindArgs (PySem.W.fnOf "__init__" qual (defArgs st) (defBody st) (defScope st) .none kV doc pm an cdv ct) ⟨us, []⟩ = pure (ps.zip us))
    (hbody : ∀ (fa : Addr) (cdv : Value) (A : Around) (outer : List Env) (s : Shared) (H : Hp) (a : Addr) (i j : Int) (Q : VK) (E : XK), Room k (A.deeper (envOfC qual (defScope st) s.heap.objs.size fa cdv)) → i.natAbs < 10000 → j.natAbs < 10000 → H a = some (exo a (adr mg x) none) →
      (∀ dx, H dx = none → dx ≠ a → Q .non (upd (upd (upd H dx (exd dx [(f, .int i)])) a (exo a (adr mg x) (some dx))) dx (exd dx [(f2, .int j), (f, .int i)]))) →
      ∃ t, PSs (cxOf L2.CX0 P w K mg base N qual (defScope st) fa cdv A outer s H E).nox (defBody st) t ∧ t { nx := fun _ H' => Q .non H', rt := Q } (start N [.ref a, .int i, .int j]) H) : MkX2 P w K mg base (k + 1) x f f2 ps := by
  obtain ⟨fI, fd, iC, tI, F⟩ := C.i
  refine ⟨C.g, C.o, fI, fd, iC, tI, F.ok S (fun vs H Q E ⟨a, i, j, e, _⟩ => by rw [e, hps]; rfl) fun cdv A outer s H vs Q E hr ⟨a, i, j, e, hi, hj, h, q⟩ => ?_, F.binds hb⟩
  subst e
  exact hbody fI cdv A outer s H a i j Q E hr hi hj h q
end
/-- the reading of a field of the caught error -/
theorem g_xf {a C dd : Addr} {fs : List (Str × V)} {v : V} {f : Str} {i : Nat} {σ : L2.St} {H : Hp} {Q : VK} (h : σ[i]? = some (some (.ref a))) (hd : H dd = some (.xd fs)) (hl : fs.lookup f = some v) (q : Q v H) : tXf a (.ref C) (some dd) C f (tVar i) σ H Q := ⟨_, h, rfl, rfl, dd, fs, v, rfl, hd, hl, q⟩
end Fl

set_option Elab.async false
set_option linter.all false
set_option maxRecDepth 100000
set_option maxHeartbeats 4000000
set_option exponentiation.threshold 20000
/-! own errors with one field, a number -/
namespace Fl
open PySem PySem.Spec PyProof.Rows L2
structure ClsN1 (K : PySem.W.Frag) (mg : Str → Option Value) (x qual : Str) (st : Stmt) (f : Str) : Prop where
  g : mg x = some (.ref (adr mg x))
  o : OexC K (adr mg x)
  n : PySem.W.findIn K (.ref (adr mg x)) f = some none
  r : XfC K (adr mg x)
  i : ∃ (fI : Addr) (fd : FuncData), PySem.W.findIn K (.ref (adr mg x)) "__init__" = some (some (.ref fI)) ∧ PySem.W.typeIn K (.ref fI) = some (.type "function") ∧ Fun K "__init__" qual st fI fd
def spIniN1 (C : Addr) (f : Str) : Sp := fun vs H Q _ => ∃ (a : Addr) (i : Int), vs = [.ref a, .int i] ∧ i.natAbs < 10000 ∧ H a = some (exo a C none) ∧ ∀ dx, H dx = none → dx ≠ a → Q .non (upd (upd H dx (exd dx [(f, .int i)])) a (exo a C (some dx)))
structure MkN1 (P : Program) (w : World) (K : PySem.W.Frag) (mg : Str → Option Value) (base : Heap) (k : Nat) (x f : Str) (ps : List Str) : Prop where
  g : mg x = some (.ref (adr mg x))
  o : OexC K (adr mg x)
  i : ∃ (fI : Addr) (fd : FuncData), PySem.W.findIn K (.ref (adr mg x)) "__init__" = some (some (.ref fI)) ∧ PySem.W.typeIn K (.ref fI) = some (.type "function") ∧ FnOk P w K mg base L2.CX0 k fI fd ps (spIniN1 (adr mg x) f) ∧ L2.Binds K fd ps []
def tRaiseN1 (W : WX) (C : Addr) (f : Str) (ta : TA) : TS := fun _ σ H => tMkO C (spIniN1 C f) [] ta σ H fun cls d H' => W cls d σ H'
theorem ps_raiseN1 {X : Cx} {W : WX} {k : Nat} {x f : Str} {ps : List Str} {e : Expr} {ta : TA} {p pos pos2 : Pos} (M : MkN1 X.prog X.w X.K X.mg X.base k x f ps) (hc : X.calm = true) (hr : Room (k + 1) X.A) (tk : Takes X W) (ha : PA X [e] ta) (hg : Gl X x := by rfl) (hdb : (x == ("__debug__" : Str)) = false := by decide)
    (he : starEach [e] X.env = (false, eval e X.env) :: starEach [] X.env := by rfl) (hpl : (backTo pos (starEach [] X.env)).any (·.1) = false := by rfl) :
    PS X (.Raise (some (.Call (.Name x p) [e] [] pos)) none pos2) (tRaiseN1 W (adr X.mg x) f ta) := by
  obtain ⟨fI, fd, iC, tI, F, b⟩ := M.i
  exact ⟨fun pins s σ H D I h => (ps_raise hc tk (pmk_oex (CX := L2.CX0) M.o iC tI F hr b .nil (fun _ _ _ _ _ _ _ z => z.elim) hg M.g ha hdb he hpl)).run pins s σ H D I h⟩
theorem g_raiseN1 {W : WX} {C : Addr} {f : Str} {i : Int} {ta : TA} {D : Ends} {σ : L2.St} {H : Hp} (hta : ∀ R : List V → Hp → Prop, R [.int i] H → ta σ H R) (hi : i.natAbs < 10000) (h : ∀ dx, H dx = none → W (.ref C) (some dx) σ (upd H dx (.xd [(f, .int i)]))) : tRaiseN1 W C f ta D σ H := by
  refine hta _ ⟨by simp, fun a ha => ⟨a, i, rfl, hi, upd_same, fun dx hd hne => ⟨rfl, dx, [(f, .int i)], upd_same, by rw [upd_ne hne, upd_same], by rw [upd_ne hne] at hd; exact hd, ?_⟩⟩⟩
  rw [upd_ne hne] at hd
  have e : upd (del (upd (upd (upd H a (exo a C none)) dx (exd dx [(f, .int i)])) a (exo a C (some dx))) a) dx (.xd [(f, .int i)]) = upd H dx (.xd [(f, .int i)]) := by
    funext b
    by_cases h1 : b = dx
    · rw [h1, upd_same, upd_same]
    · rw [upd_ne h1, upd_ne h1]
      by_cases h2 : b = a
      · rw [h2, del_same, ha]
      · rw [del_ne h2, upd_ne h2, upd_ne h1, upd_ne h2]
  rw [e]
  exact h dx hd
section
variable {P : Program} {w : World} {K : PySem.W.Frag} {mg : Str → Option Value} {base : Heap}
theorem mkN1_of {x qual f : Str} {st : Stmt} {k : Nat} {N ps : List Str} (C : ClsN1 K mg x qual st f) (hps : ps.length = 2) (S : FnScope N ps (defScope st))
    (hb : ∀ (kV doc pm : Value) (an : Option Addr) (cdv ct : Value) (us : List Value), us.length = ps.length → bindArgs (PySem.W.fnOf "__init__" qual (defArgs st) (defBody st) (defScope st) .none kV doc pm an cdv ct) ⟨us, []⟩ = pure (ps.zip us))
    (hbody : ∀ (fa : Addr) (cdv : Value) (A : Around) (outer : List Env) (s : Shared) (H : Hp) (a : Addr) (i : Int) (Q : VK) (E : XK), Room k (A.deeper (envOfC qual (defScope st) s.heap.objs.size fa cdv)) → i.natAbs < 10000 → H a = some (exo a (adr mg x) none) →
      (∀ dx, H dx = none → dx ≠ a → Q .non (upd (upd H dx (exd dx [(f, .int i)])) a (exo a (adr mg x) (some dx)))) →
      ∃ t, PSs (cxOf L2.CX0 P w K mg base N qual (defScope st) fa cdv A outer s H E).nox (defBody st) t ∧ t { nx := fun _ H' => Q .non H', rt := Q } (start N [.ref a, .int i]) H) : MkN1 P w K mg base (k + 1) x f ps := by
  obtain ⟨fI, fd, iC, tI, F⟩ := C.i
  refine ⟨C.g, C.o, fI, fd, iC, tI, F.ok S (fun vs H Q E ⟨a, i, e, _⟩ => by rw [e, hps]; rfl) fun cdv A outer s H vs Q E hr ⟨a, i, e, hi, h, q⟩ => ?_, F.binds hb⟩
  subst e
  exact hbody fI cdv A outer s H a i Q E hr hi h q
end
end Fl

set_option Elab.async false
set_option linter.all false
set_option maxRecDepth 100000
set_option maxHeartbeats 4000000
/-! own classes made with values alone -/
namespace Fl
open PySem PySem.Spec PyProof.Rows L2
structure MkP (P : Program) (w : World) (K : PySem.W.Frag) (mg : Str → Option Value) (base : Heap) (k : Nat) (x : Str) (sp : Sp) : Prop where
  ex : ∃ (f : Addr) (fd : FuncData) (ps : List Str), mg x = some (.ref (adr mg x)) ∧ Mk K (adr mg x) f ∧ FnOk P w K mg base L2.CX0 k f fd ps sp ∧ L2.Binds K fd ps []
theorem InI.makeP {P : Program} {w : World} {K : PySem.W.Frag} {mg : Str → Option Value} {base : Heap} {x qual : Str} {st : Stmt} {fs : List Str} {kws : List (Str × V)} {ps : List Str} {k : Nat} {sp : Sp} (D : InI P w K mg base k x qual st fs kws ps sp)
    (hb : ∀ (kV doc pm : Value) (an : Option Addr) (cdv ct : Value) (us : List Value), us.length = ps.length → bindArgs (PySem.W.fnOf "__init__" qual (defArgs st) (defBody st) (defScope st) .none kV doc pm an cdv ct) ⟨us, []⟩ = pure (ps.zip us)) :
    MkP P w K mg base k x sp := by
  obtain ⟨f, fd, a, M, F, G⟩ := D.ex
  exact ⟨f, fd, ps, a, M, G, F.bindsN hb⟩
theorem pe_mkP {X : Cx} {mg : Str → Option Value} {k : Nat} {x : Str} {sp : Sp} {e : Expr} {es : List Expr} {t : TA} {p pos : Pos} (em : X.mg = mg) (h : MkP X.prog X.w X.K X.mg X.base k x sp) (hr : Room (k + 1) X.A) (ha : PA X (e :: es) t) (hg : Gl X x := by rfl)
    (hdb : (x == ("__debug__" : Str)) = false := by decide) (he : starEach (e :: es) X.env = (false, eval e X.env) :: starEach es X.env := by rfl) (hpl : (backTo pos (starEach es X.env)).any (·.1) = false := by rfl) :
    PE X (.Call (.Name x p) (e :: es) [] pos) (tMake (adr mg x) sp [] E0 t) := by
  subst em
  obtain ⟨f, fd, ps, a, b, c, d⟩ := h.ex
  exact pe_make b c hr hg a d .nil pass0 ha hdb he hpl
theorem g_mkP {C : Addr} {sp : Sp} {E : XK} {t : TA} {σ : L2.St} {H : Hp} {Q : VK} (h : t σ H fun vs H1 => ∀ x dx, H1 x = none → H1 dx = none → dx ≠ x → sp (.ref x :: (vs ++ [])) (upd (upd H1 dx (.own x)) x (.ins C dx [])) (fun v H2 => v = .non ∧ Q (.ref x) H2) E) : tMake C sp [] E t σ H Q := h
end Fl

set_option Elab.async false
set_option linter.all false
set_option maxRecDepth 100000
set_option maxHeartbeats 4000000
/-! methods of own classes -/
namespace Fl
open PySem PySem.Spec PyProof.Rows L2
/-- the method m of the class x -/
def MethR (K : PySem.W.Frag) (mg : Str → Option Value) (x m qual : Str) (st : Stmt) : Prop := ∃ (f : Addr) (fd : FuncData), Meth K (adr mg x) m f ∧ FunD K m qual (defArgs st) (defBody st) (defScope st) [] [] f fd
structure HasM (P : Program) (w : World) (K : PySem.W.Frag) (mg : Str → Option Value) (base : Heap) (k : Nat) (x m : Str) (sp : Sp) : Prop where
  ex : ∃ (f : Addr) (fd : FuncData) (ps : List Str), Cls K (adr mg x) ∧ Meth K (adr mg x) m f ∧ FnOk P w K mg base L2.CX0 k f fd ps sp ∧ L2.Binds K fd ps []
section
variable {P : Program} {w : World} {K : PySem.W.Frag} {mg : Str → Option Value} {base : Heap}
theorem HasM.mono {j k : Nat} {x m : Str} {sp : Sp} (h : HasM P w K mg base j x m sp) (e : j ≤ k) : HasM P w K mg base k x m sp := by
  obtain ⟨f, fd, ps, a, b, c, d⟩ := h.ex
  exact ⟨f, fd, ps, a, b, c.mono e, d⟩
theorem hasM_of {x m qual : Str} {st : Stmt} {N ps : List Str} {k : Nat} {sp : Sp} (c : Cls K (adr mg x)) (D : MethR K mg x m qual st) (S : FnScope N ps (defScope st))
    (hb : ∀ (kV doc pm : Value) (an : Option Addr) (cdv ct : Value) (us : List Value), us.length = ps.length → bindArgs (PySem.W.fnOf m qual (defArgs st) (defBody st) (defScope st) .none kV doc pm an cdv ct) ⟨us, []⟩ = pure (ps.zip us))
    (len : ∀ vs H Q E, sp vs H Q E → vs.length = ps.length)
    (hbody : ∀ (f : Addr) (cdv : Value) (A : Around) (outer : List Env) (s : Shared) (H : Hp) (vs : List V) (Q : VK) (E : XK), Room k (A.deeper (envOfC qual (defScope st) s.heap.objs.size f cdv)) → sp vs H Q E →
      ∃ t, PSs (bx P w K mg base N qual st f cdv A outer s H E) (defBody st) t ∧ t { nx := fun _ H' => Q .non H', rt := Q } (start N vs) H) : HasM P w K mg base (k + 1) x m sp := by
  obtain ⟨f, fd, M, F⟩ := D
  refine ⟨f, fd, ps, c, M, F.ok S len fun cdv A outer s H vs Q E hr h => ?_, F.bindsN hb⟩
  obtain ⟨t, ht, q⟩ := hbody f cdv A outer s H vs Q E hr h
  exact ⟨t, ht.nox, q⟩
end
theorem pe_hM {X : Cx} {mg : Str → Option Value} {k : Nat} {x m : Str} {sp : Sp} {o e : Expr} {es : List Expr} {ta : TE} {t : TA} {pos apos : Pos} {pl : Sem Bool} (em : X.mg = mg) (h : HasM X.prog X.w X.K X.mg X.base k x m sp) (hr : Room k X.A) (ho : PE X o ta) (ha : PA X (e :: es) t)
    (he : starEach (e :: es) X.env = (false, eval e X.env) :: starEach es X.env := by rfl) (hpl : (backTo pos (starEach es X.env)).any (·.1) = false := by rfl)
    (hev : eval ((o.Attribute m apos).Call (e :: es) [] pos) X.env = (do
      let ov ← eval o X.env
      standAt apos.atName
      let (f, first) ← holding [ov] (getMethod ov m pl)
      callWith pos f first (backTo pos (starEach (e :: es) X.env)) (backToKw pos (keywordEach [] X.env))) := by rfl) :
    PE X ((o.Attribute m apos).Call (e :: es) [] pos) (tMeth (adr mg x) m sp [] E0 ta t) := by
  subst em
  obtain ⟨f, fd, ps, a, b, c, d⟩ := h.ex
  exact pe_meth ho a b c hr d .nil pass0 ha he hpl hev
theorem g_meth {C : Addr} {m : Str} {sp : Sp} {E : XK} {ta : TE} {t : TA} {σ : L2.St} {H : Hp} {Q : VK} (h : ta σ H fun x H1 => ∃ a dx fs, x = .ref a ∧ H1 a = some (.ins C dx fs) ∧ fs.lookup m = none ∧ t σ H1 fun vs H2 => sp (x :: (vs ++ [])) H2 Q E) : tMeth C m sp [] E ta t σ H Q := h
end Fl

set_option Elab.async false
set_option linter.all false
set_option maxRecDepth 100000
set_option maxHeartbeats 4000000
/-! the end of a law by one kernel run: what the proofs ask of the top, as truths of the objects at some addresses -/
namespace Fl
open PySem PySem.Spec PyProof.Rows L2 He
theorem map3 {α β γ δ : Type} {x : Option α} {f : α → β} {g : α → γ} {h : α → δ} {a : β} {b : γ} {c : δ} (h1 : x.map (fun y => (f y, g y)) = some (a, b)) (h2 : x.map h = some c) : x.map (fun y => (f y, g y, h y)) = some (a, b, c) := by
  cases x with
  | none => cases h1
  | some y =>
    have e1 : (f y, g y) = (a, b) := Option.some.inj h1
    have e2 : h y = c := Option.some.inj h2
    cases e1
    cases e2
    rfl
abbrev Chk : Type := PySem.W.Frag → Bool
def obsC (cs : List Chk) (fn : List DefD) (ts : List Tab) (K : PySem.W.Frag) : AlT := (((cs.all fun c => c K) && fn.all fun d => d.ok K, fn.map fun d => fnW K d.at_), ts.map fun t => dicW K (t.1 K))
def hookC (as : List Addr) (cs : List Chk) (fn : List DefD) (ts : List Tab) : PySem.W.Hook where
  α := AlT
  obs := fun s => obsC cs fn ts (frG s.heap.get? as)
  val := fun w => valT fn ts w
  says := fun w h => ∃ K : PySem.W.Frag, K.In h ∧ obsC cs fn ts K = valT fn ts w
  of := fun _ _ e => ⟨_, frG_in, e⟩
  keeps := fun _ _ _ ⟨K, hK, c⟩ k => ⟨K, PySem.W.Frag.In.keeps hK k, c⟩
def obC (as : List Addr) (cs : List Chk) (fn : List DefD) (ts : List Tab) (s : PySem.W.SharedT) : AlT := obsC cs fn ts (frG (HandSHeadRun.getT s) as)
theorem obC_eq {as : List Addr} {cs : List Chk} {fn : List DefD} {ts : List Tab} (s : PySem.W.SharedT) : obC as cs fn ts s = (hookC as cs fn ts).obs s.abs := by
  show obsC cs fn ts (frG (HandSHeadRun.getT s) as) = obsC cs fn ts (frG s.abs.heap.get? as)
  rw [show HandSHeadRun.getT s = s.abs.heap.get? from funext (HandSHeadRun.getT_eq s)]
section
variable {cs : List Chk} {fn : List DefD} {ts : List Tab} {w : World} {K : PySem.W.Frag}
/-- what is asked, in two looks -/
theorem ob2 {α : Type} {x : Option α} {g : α → PySem.W.SharedT} {as : List Addr} {cs : List Chk} {fn : List DefD} {ts : List Tab} {v : AlT} (h1 : x.map (fun y => cs.all fun c => c (frG (HandSHeadRun.getT (g y)) as)) = some true) (h2 : x.map (fun y => obC as [] fn ts (g y)) = some v) : x.map (fun y => obC as cs fn ts (g y)) = some v := by
  cases x with
  | none => cases h1
  | some y =>
    have e : (cs.all fun c => c (frG (HandSHeadRun.getT (g y)) as)) = true := Option.some.inj h1
    rw [← h2]
    show some (obC as cs fn ts (g y)) = some (obC as [] fn ts (g y))
    unfold obC obsC
    rw [e]
    rfl
theorem saysC_chk (c : obsC cs fn ts K = valT fn ts w) (i : Nat) {f : Chk} (h : cs[i]? = some f) : f K = true := by
  have c1 : ((cs.all fun c => c K) && fn.all fun d => d.ok K) = true := congrArg (fun z : AlT => z.1.1) c
  exact List.all_eq_true.mp (ba c1).1 f (List.mem_of_getElem? h)
theorem saysC_def (c : obsC cs fn ts K = valT fn ts w) (i : Nat) {d : DefD} (h : fn[i]? = some d) : ∃ fd, FunD K d.name d.qual d.params d.body d.scope (d.dvs K) (d.kws K) (fAd K d.at_) fd := by
  have c1 : ((cs.all fun c => c K) && fn.all fun d => d.ok K) = true := congrArg (fun z : AlT => z.1.1) c
  have e : fn.map (fun d => fnW K d.at_) = fn.map DefD.val := congrArg (fun z : AlT => z.1.2) c
  have e2 : (fn.map fun d => fnW K d.at_)[i]? = (fn.map DefD.val)[i]? := by rw [e]
  rw [List.getElem?_map, List.getElem?_map, h] at e2
  exact DefD.funD (Option.some.inj e2) (List.all_eq_true.mp (ba c1).2 d (List.mem_of_getElem? h))
theorem saysC_tab (c : obsC cs fn ts K = valT fn ts w) (i : Nat) {t : Tab} (h : ts[i]? = some t) : ∃ es n, KDict K w (t.1 K) es n := by
  have e : ts.map (fun t => dicW K (t.1 K)) = ts.map fun t => some (keysIn w.params t.2) := congrArg (fun z : AlT => z.2) c
  have e2 : (ts.map fun t => dicW K (t.1 K))[i]? = (ts.map fun t => some (keysIn w.params t.2))[i]? := by rw [e]
  rw [List.getElem?_map, List.getElem?_map, h] at e2
  exact dicW_ok (Option.some.inj e2)
end
section
variable {K : PySem.W.Frag} {h : Heap} {mg : Str → Option Value} {x y m : Str}
/-! names -/
def cGlo (x : Str) : Chk := fun K => (Fa.glo x).ok K
def cFree (x : Str) : Chk := fun K => (Fa.free x).ok K
def cInt (x : Str) (i : Int) : Chk := fun K => (Fa.int x i).ok K
def cBlt (x : Str) (b : String) : Chk := fun K => eqO (PySem.W.nsIn K mainGlobals x) (some (some (.builtin b)))
theorem glo_a (X : K.In h) (G : h.Ns mainGlobals mg) (c : cGlo x K = true) : adr mg x = ga K x := adr_of (glo_ok X G c)
theorem glo_g (X : K.In h) (G : h.Ns mainGlobals mg) (c : cGlo x K = true) : mg x = some (.ref (adr mg x)) := by rw [glo_a X G c]; exact glo_ok X G c
theorem free_g (X : K.In h) (G : h.Ns mainGlobals mg) (c : cFree x K = true) : mg x = none := free_ok X G c
theorem int_g (X : K.In h) (G : h.Ns mainGlobals mg) {i : Int} (c : cInt x i K = true) : ∃ u, mg x = some u ∧ RelV (.int i) u := by
  obtain ⟨t, e⟩ := int_ok X G c
  exact ⟨_, e, t, rfl⟩
theorem blt_g (X : K.In h) (G : h.Ns mainGlobals mg) {b : String} (c : cBlt x b K = true) : mg x = some (.builtin b) := PySem.W.mg_of X G (eqO_ok c)
/-! defs -/
theorem fun_of {x q : Str} {st : Stmt} {f : Addr} {fd : FuncData} (F : FunD K x q (defArgs st) (defBody st) (defScope st) [] [] f fd) : Fun K x q st f fd := by
  obtain ⟨⟨oc, od, dV, kV, doc, pm, an, cdv, ct, osl, e, lk, hc, hd, _⟩, kp⟩ := F
  rcases hd with ⟨_, e2⟩ | ⟨n, _⟩
  · subst e2
    exact ⟨⟨oc, od, kV, doc, pm, an, cdv, ct, osl, e, lk, hc⟩, kp⟩
  · exact absurd rfl n
theorem defIn_of {st : Stmt} (g : mg x = some (.ref (ga K x))) (F : ∃ fd, FunD K x x (defArgs st) (defBody st) (defScope st) [] [] (ga K x) fd) : DefIn K mg x st := by
  obtain ⟨fd, F⟩ := F
  exact ⟨⟨_, fd, fun_of F, g⟩⟩
theorem defInD_of {st : Stmt} {dvs : List V} (g : mg x = some (.ref (ga K x))) (F : ∃ fd, FunD K x x (defArgs st) (defBody st) (defScope st) dvs [] (ga K x) fd) : DefInD K mg x st dvs := by
  obtain ⟨fd, F⟩ := F
  exact ⟨⟨_, fd, F, g⟩⟩
/-- an empty tuple -/
def emB (K : PySem.W.Frag) (a : Addr) : Bool := match K.lookup a with
  | some ⟨.type c, _, .seq its _, _⟩ => decide (c = "tuple") && decide (its.toList = [])
  | _ => false
theorem em_ok {a : Addr} (c : emB K a = true) : EmT K a := by
  unfold emB at c
  split at c
  · rename_i cc d its n sl lk
    obtain ⟨c1, c2⟩ := ba c
    have e1 := of_decide_eq_true c1
    have e2 := of_decide_eq_true c2
    subst e1
    refine ⟨_, its, n, lk, rfl, rfl, ?_, by rw [e2]; exact .nil⟩
    have : its.size = 0 := by rw [← Array.length_toList, e2]; rfl
    omega
  · cases c
/-- a keyword default of a class that is an object -/
def kwAt (x m : Str) (K : PySem.W.Frag) : Addr := match K.lookup (ma K (ga K x) "__init__") with
  | some ⟨_, _, .func fd, _⟩ => (match fd.kwdefaults with
    | .ref D => (match PySem.W.nsIn K D m with
      | some (some (.ref a)) => a
      | _ => 0)
    | _ => 0)
  | _ => 0
/-! own errors -/
def baseB (x : Str) : Chk := fun K => eqO (PySem.W.specialIn K (.ref (ga K x)) "__getattribute__") (some (some (.builtin "type.__getattribute__"))) && (decide (PySem.W.typeIn K (.ref (ga K x)) = some (.type "type")) && (PySem.W.readsIn K (ga K x) (.type "type") && (match PySem.W.findCls K (.ref (ga K x)) (.type "type") "__init__" with
  | some (.val (.builtin b)) => decide (b = "ValueError.__init__")
  | _ => false)))
theorem base_ok (X : K.In h) (G : h.Ns mainGlobals mg) (g : cGlo x K = true) (c : baseB x K = true) : BaseC K (adr mg x) := by
  rw [glo_a X G g]
  obtain ⟨c1, c2⟩ := ba c
  obtain ⟨c2, c3⟩ := ba c2
  obtain ⟨c3, c4⟩ := ba c3
  refine ⟨eqO_ok c1, of_decide_eq_true c2, c3, ?_⟩
  split at c4
  · rename_i b e
    rw [e, of_decide_eq_true c4]
  · cases c4
def oexB (x : Str) : Chk := fun K => (match K.lookup (ga K x) with
  | some ⟨.type t, _, .cls cd, sl⟩ => (match cd.mro, sl.toList with
    | .ref C' :: bm, [_, _, _, _, some (.builtin n), _] => decide (t = "type") && (C' == ga K x && (decide (n = "ValueError.__new__") && (!cd.hasDel && (cd.hasDict && PySem.HandSPX.refsVE bm))))
    | _, _ => false)
  | _ => false) && (eqO (PySem.W.findIn K (.ref (ga K x)) "__setattr__") (some (some (.builtin "object.__setattr__"))) && (decide (PySem.W.subIn K (.ref (ga K x)) (.type "BaseException") = some true) && (decide (PySem.W.typeIn K (.ref (ga K x)) = some (.type "type")) && PySem.W.keepIn K (.ref (ga K x)))))
theorem oex_ok (c : oexB x K = true) : OexC K (ga K x) := by
  obtain ⟨c1, c2⟩ := ba c
  obtain ⟨c2, c3⟩ := ba c2
  obtain ⟨c3, c4⟩ := ba c3
  obtain ⟨c4, c5⟩ := ba c4
  refine ⟨?_, eqO_ok c2, of_decide_eq_true c3, of_decide_eq_true c4, c5⟩
  split at c1
  · rename_i t dd cd sl lk
    split at c1
    · rename_i C' bm k0 k1 k2 k3 n k5 hm hs
      obtain ⟨q1, c1⟩ := ba c1
      obtain ⟨q2, c1⟩ := ba c1
      obtain ⟨q3, c1⟩ := ba c1
      obtain ⟨q4, c1⟩ := ba c1
      obtain ⟨q5, q6⟩ := ba c1
      have e1 := of_decide_eq_true q1
      have e2 := beq_iff_eq.mp q2
      have e3 := of_decide_eq_true q3
      obtain ⟨nm, bs, mro, ns, qn, hd, sn, sub, ab, col, del⟩ := cd
      dsimp only at hm q4 q5
      have e4 : del = false := by simpa using q4
      subst e1 e2 e3 e4 hm q5
      have esl : sl = #[k0, k1, k2, k3, some (.builtin "ValueError.__new__"), k5] := by
        obtain ⟨l⟩ := sl
        simp only at hs
        rw [hs]
      subst esl
      exact ⟨nm, qn, ns, bs, bm, sn, sub, ab, col, dd, k0, k1, k2, k3, k5, lk, q6⟩
    · cases c1
  · cases c1
def excB (x : Str) : Chk := fun K => eqO (PySem.W.findIn K (.ref (ga K x)) "__getattribute__") (some (some (.builtin "BaseException.__getattribute__"))) && (eqO (PySem.W.findIn K (.ref (ga K x)) "__getattr__") (some none) && (decide (PySem.W.subIn K (.ref (ga K x)) (.type "BaseException") = some true) && (PySem.W.hasDictIn K (ga K x) && (eqO (PySem.W.findIn K (.ref (ga K x)) "__class__") (some (some (.builtin "object.__class__"))) &&
  (eqO (PySem.W.specialIn K (.builtin "object.__class__") "__get__") (some (some (.builtin "getset_descriptor.__get__"))) && (decide (PySem.W.takesIn K (.builtin "object.__class__") = some true) && decide (PySem.W.mroIn K (ga K x) (.type "object") = some true)))))))
theorem exc_k (c : excB x K = true) : ExcC K (ga K x) := by
  obtain ⟨c1, c⟩ := ba c
  obtain ⟨c2, c⟩ := ba c
  obtain ⟨c3, c⟩ := ba c
  obtain ⟨c4, c⟩ := ba c
  obtain ⟨c5, c⟩ := ba c
  obtain ⟨c6, c⟩ := ba c
  obtain ⟨c7, c8⟩ := ba c
  exact ⟨eqO_ok c1, eqO_ok c2, of_decide_eq_true c3, c4, eqO_ok c5, eqO_ok c6, of_decide_eq_true c7, of_decide_eq_true c8⟩
theorem exc_c (X : K.In h) (G : h.Ns mainGlobals mg) (g : cGlo x K = true) (c : excB x K = true) : ExcC K (adr mg x) := by rw [glo_a X G g]; exact exc_k c
def iniB (x : Str) : Chk := fun K => eqO (PySem.W.findIn K (.ref (ga K x)) "__init__") (some (some (.ref (ma K (ga K x) "__init__")))) && decide (PySem.W.typeIn K (.ref (ma K (ga K x) "__init__")) = some (.type "function"))
theorem clsN_ok {q : Str} {st : Stmt} (X : K.In h) (G : h.Ns mainGlobals mg) (g : cGlo x K = true) (o : oexB x K = true) (e : excB x K = true) (i : iniB x K = true) (F : ∃ fd, FunD K "__init__" q (defArgs st) (defBody st) (defScope st) [] [] (ma K (ga K x) "__init__") fd) : ClsN K mg x q st := by
  obtain ⟨fd, F⟩ := F
  obtain ⟨i1, i2⟩ := ba i
  have a := glo_a X G g
  exact ⟨glo_g X G g, by rw [a]; exact oex_ok o, by rw [a]; exact exc_k e, by rw [a]; exact ⟨_, fd, eqO_ok i1, of_decide_eq_true i2, fun_of F⟩⟩
def fldB (x f : Str) : Chk := fun K => eqO (PySem.W.findIn K (.ref (ga K x)) f) (some none) && (eqO (PySem.W.findIn K (.ref (ga K x)) "__getattribute__") (some (some (.builtin "BaseException.__getattribute__"))) && (eqO (PySem.W.findIn K (.ref (ga K x)) "__getattr__") (some none) && (decide (PySem.W.subIn K (.ref (ga K x)) (.type "BaseException") = some true) && PySem.W.hasDictIn K (ga K x))))
theorem clsN1_ok {q f : Str} {st : Stmt} (X : K.In h) (G : h.Ns mainGlobals mg) (g : cGlo x K = true) (o : oexB x K = true) (e : fldB x f K = true) (i : iniB x K = true) (F : ∃ fd, FunD K "__init__" q (defArgs st) (defBody st) (defScope st) [] [] (ma K (ga K x) "__init__") fd) : ClsN1 K mg x q st f := by
  obtain ⟨fd, F⟩ := F
  obtain ⟨i1, i2⟩ := ba i
  have a := glo_a X G g
  obtain ⟨e1, e2⟩ := ba e
  obtain ⟨e2, e3⟩ := ba e2
  obtain ⟨e3, e4⟩ := ba e3
  obtain ⟨e4, e5⟩ := ba e4
  exact ⟨glo_g X G g, by rw [a]; exact oex_ok o, by rw [a]; exact eqO_ok e1, by rw [a]; exact ⟨eqO_ok e2, eqO_ok e3, of_decide_eq_true e4, e5⟩, by rw [a]; exact ⟨_, fd, eqO_ok i1, of_decide_eq_true i2, fun_of F⟩⟩
def exmB (x y : Str) (b : Bool) : Chk := fun K => decide (PySem.W.exmOne K (.ref (ga K x)) (.ref (ga K y)) = some b)
theorem exm_a (X : K.In h) (G : h.Ns mainGlobals mg) (g : cGlo x K = true) (g2 : cGlo y K = true) {b : Bool} (c : exmB x y b K = true) : PySem.W.exmOne K (.ref (adr mg x)) (.ref (adr mg y)) = some b := by
  rw [glo_a X G g, glo_a X G g2]
  exact of_decide_eq_true c
def kitB (x y : Str) (b : Bool) : Chk := fun K => decide (PySem.W.kitOne K (.ref (ga K x)) (.ref (ga K y)) = some b)
theorem kit_a (X : K.In h) (G : h.Ns mainGlobals mg) (g : cGlo x K = true) (g2 : cGlo y K = true) {b : Bool} (c : kitB x y b K = true) : PySem.W.kitOne K (.ref (adr mg x)) (.ref (adr mg y)) = some b := by
  rw [glo_a X G g, glo_a X G g2]
  exact of_decide_eq_true c
/-! own classes -/
def clsB (x : Str) (fs : List Str) : Chk := fun K => (Fa.cls x).ok K && ((Fa.mkr x).ok K && fs.all fun f => eqO (PySem.W.findIn K (.ref (ga K x)) f) (some none))
theorem clsI_ok {q : Str} {st : Stmt} {fs : List Str} {kws : List (Str × V)} (X : K.In h) (G : h.Ns mainGlobals mg) (g : cGlo x K = true) (c : clsB x fs K = true) (F : ∃ fd, FunD K "__init__" q (defArgs st) (defBody st) (defScope st) [] kws (ma K (ga K x) "__init__") fd) : ClsI K mg x q st fs kws := by
  obtain ⟨fd, F⟩ := F
  obtain ⟨c1, c2⟩ := ba c
  obtain ⟨c2, c3⟩ := ba c2
  have a := glo_a X G g
  exact ⟨glo_g X G g, by rw [a]; exact cls_ok c1, fun f m => by rw [a]; exact eqO_ok (List.all_eq_true.mp c3 f m), by rw [a]; exact ⟨_, fd, mkr_ok c2, F⟩⟩
/-! methods of own classes -/
def methB (x m : Str) : Chk := fun K => eqO (PySem.W.findIn K (.ref (ga K x)) m) (some (some (.ref (ma K (ga K x) m)))) && (PySem.W.isFn K (.ref (ma K (ga K x) m)) && PySem.W.keepIn K (.ref (ma K (ga K x) m)))
theorem methR_ok {m q : Str} {st : Stmt} (X : K.In h) (G : h.Ns mainGlobals mg) (g : cGlo x K = true) (c : methB x m K = true) (F : ∃ fd, FunD K m q (defArgs st) (defBody st) (defScope st) [] [] (ma K (ga K x) m) fd) : MethR K mg x m q st := by
  obtain ⟨fd, F⟩ := F
  obtain ⟨c1, c2⟩ := ba c
  obtain ⟨c2, c3⟩ := ba c2
  have a := glo_a X G g
  refine ⟨_, fd, ⟨?_, c2, c3⟩, F⟩
  rw [a]
  exact eqO_ok c1
/-! tuples and dicts of the top -/
theorem tup_a (X : K.In h) (G : h.Ns mainGlobals mg) (g : cGlo x K = true) {vs : List Dv} (c : tupB K x vs = true) (H : Hp) : SqT K H (adr mg x) (vs.map (Dv.v K)) := by
  rw [glo_a X G g]
  exact tupB_ok c H
/-- the value at a key: a tuple of these -/
def entB (d x : Str) (vs : List V) : Chk := fun K => match PySem.W.nsIn K (ga K d) x with
  | some (some (.ref t)) => (match K.lookup t with
    | some ⟨.type c, _, .seq its _, _⟩ => decide (c = "tuple") && (decide (its.size ≤ sizeLine) && relAll vs its.toList)
    | _ => false)
  | _ => false
def entN (d x : Str) : Chk := fun K => eqO (PySem.W.nsIn K (ga K d) x) (some none)
theorem ent_ok {d x : Str} {vs : List V} (c : entB d x vs K = true) : ∃ t, PySem.W.nsIn K (ga K d) x = some (some (.ref t)) ∧ ∀ H : Hp, SqT K H t vs := by
  unfold entB at c
  split at c
  · rename_i t e
    refine ⟨t, e, fun H => ?_⟩
    split at c
    · rename_i cc dd its n sl lk
      obtain ⟨c1, c2⟩ := ba c
      obtain ⟨c2, c3⟩ := ba c2
      exact .inr ⟨_, its, n, lk, congrArg Value.type (of_decide_eq_true c1), rfl, of_decide_eq_true c2, relAll_ok c3⟩
    · cases c
  · cases c
end
end Fl

set_option Elab.async false
set_option linter.all false
set_option maxRecDepth 100000
set_option maxHeartbeats 4000000
/-! lambdas with parameters, handed from def to def and called there -/
namespace Fl
open PySem PySem.Spec PyProof.Rows L2 LamX NdefX
/-- the function data of a lambda: F tells its words (its body is e), names, cells and code object -/
abbrev LmD (F : NF) (e : Expr) (pm ctv : Value) : FuncData := PySem.W.kla_fn F.name F.qual F.params e F.scope F.cl pm (.ref F.c) ctv
/-- the object at f is the lambda -/
def LmO (f : Addr) (F : NF) (e : Expr) : HO := .ext fun h => ∃ (od : Option Addr) (sl : Array (Option Value)) (pm ctv : Value), h.get? f = some (⟨.type "function", od, .func (LmD F e pm ctv), sl⟩ : Obj)
structure LmH (H : Hp) (f : Addr) (F : NF) (e : Expr) : Prop where
  f : H f = some (LmO f F e)
  c : H F.c = some (CodeO F.c F.qual)
theorem LmH.to {H H' : Hp} {f : Addr} {F : NF} {e : Expr} (h : LmH H f F e) (k : ∀ b φ, H b = some (.ext φ) → H' b = some (.ext φ)) : LmH H' f F e := ⟨k _ _ h.f, k _ _ h.c⟩
theorem LmH.same {H H' : Hp} {f : Addr} {F : NF} {e : Expr} (h : LmH H f F e) (k : Same H H') : LmH H' f F e := h.to fun b φ q => k b _ q
/-- at D stands no such thing -/
theorem LmH.fr {S : List Addr} {H H' : Hp} {f : Addr} {F : NF} {e : Expr} (h : LmH H f F e) (k : Fr S H H') (n : ∀ b φ, b ∈ S → H b ≠ some (.ext φ)) : LmH H' f F e := h.to fun b φ q => k b _ (fun m => n b φ m q) q
theorem lmO_at {P : Program} {w : World} {H : Hp} {h : Heap} {f : Addr} {F : NF} {e : Expr} (hok : HOk P w H h) (z : H f = some (LmO f F e)) : ∃ (od : Option Addr) (sl : Array (Option Value)) (pm ctv : Value), h.get? f = some (⟨.type "function", od, .func (LmD F e pm ctv), sl⟩ : Obj) := by
  obtain ⟨q, _, _⟩ := hok f _ z
  exact q
theorem frIn {S : List Addr} {H H' : Hp} {a : Addr} {o : HO} (h : Fr S H H') (m : a ∈ S) : Fr S H (upd H' a o) := fun b u n q => by
  rw [upd_ne (fun z => n (by rw [z]; exact m))]
  exact h b u n q
theorem frNew {S : List Addr} {H H' : Hp} {a : Addr} {o : HO} (h : Fr S H H') (e : H a = none) : Fr S H (upd H' a o) := fun b u n q => by
  rw [upd_ne (fun z => by rw [z, e] at q; cases q)]
  exact h b u n q
section
variable {X : Cx} {pins : List (Addr × Obj)} {σ : L2.St} {H : Hp} {s : Shared}
/-- the lambda is made: its code object is new, or stands in the table -/
theorem lam_mk {c P : Addr} {params : Arguments} {body : Expr} {scope : Scope} {pos : Pos} {E : Value → Shared → Prop} {Q : Value → Shared → Prop} (I : Inv X pins σ H s) (TB : TabB X.base X.mg c P) (hcode : X.env.code = .ref c)
    (hT : TabS H P (X.env.qual ++ "<lambda>")) (hdef : defaultsOf params X.env = ([], [])) (hfree : ∀ y ∈ scope.names, y.2 = .free → ∃ c, X.env.cells.lookup y.1 = some c)
    (h : ∀ (f c' : Addr) (H1 : Hp) (s' : Shared), Inv X pins σ H1 s' → Fr [P] H H1 → TabS H1 P (X.env.qual ++ "<lambda>") → H f = none → LmH H1 f ⟨"<lambda>", X.env.qual ++ "<lambda>", params, [], scope, cloFrom X.env.cells scope.names [], c'⟩ body → Q (.ref f) s') :
    wpAny (model X.prog X.w) X.A (eval (.Lambda params body scope pos) X.env) Q E s := by
  obtain ⟨ps, hP, ht, ha⟩ := hT
  refine PySem.W.kla_eval hdef ?_
  have bP : s.heap.BuiltinsAt X.mg P := TB.bm.keeps I.bk
  have hP' : s.heap.get? P = some { cls := .none, data := .fields ps } := I.hok P _ hP
  have known : ∀ {H1 : Hp} {h1 : Heap} {t1 : Nat} (F : NF) (pm ctv : Value), Inv X pins σ H1 { s with heap := h1, toks := t1 } →
      Inv X pins σ (upd H1 h1.objs.size (LmO h1.objs.size F body)) { s with heap := h1.push { cls := .type "function", data := .func (LmD F body pm ctv) }, toks := t1 } := fun {H1 h1 t1} F pm ctv J => by
    refine J.laid (a := h1.objs.size) (t' := t1) (fun b u e => Heap.get?_push_of_some _ e) (Nat.le_refl _) ?_
    have e : (h1.push ({ cls := .type "function", data := .func (LmD F body pm ctv) } : Obj)).get? h1.objs.size = some ({ cls := .type "function", data := .func (LmD F body pm ctv) } : Obj) := Heap.get?_push_size _ rfl
    exact ⟨⟨_, _, pm, ctv, e⟩, ⟨_, e⟩, fun g1 g2 ⟨od, sl, p, t, z⟩ st => ⟨od, sl, p, t, st _ z⟩⟩
  cases hc : codeAmong pos ps.toList with
  | none =>
    refine PySem.W.kla_makeFunction (mg := X.mg) (c := c) (P := P) (ps := ps) (closure_ok hfree) I.ok.glob (I.mod.glob.keeps I.bk) hcode (TB.code.keeps I.bk) hP' ht hc TB.gP bP fun c' ctv h' tk hx hge hlt hrec htb => ?_
    obtain ⟨c2, oc, vs, t, e2, hoc, hd, hv⟩ := hrec
    cases e2
    have nC : H c' = none := I.hok.fresh hge
    have I1 := inv_table (t' := tk) (more := #[rawInt pos.line, rawInt pos.col, .ref c']) (h' := h') I hP (fun b o hb e => hx b o hb e) htb hge ⟨oc, vs, t, hoc, hd, hv⟩
    have nF := I1.hok.fresh (Nat.le_refl _)
    have nF0 : H h'.objs.size = none := I.hok.fresh (Nat.le_trans hge (Nat.le_of_lt hlt))
    have eL : (ps ++ #[rawInt pos.line, rawInt pos.col, .ref c']).toList = ps.toList ++ [rawInt pos.line, rawInt pos.col, .ref c'] := by simp
    have hF1 : Fr [P] H (upd (upd H P (.tbl (ps ++ #[rawInt pos.line, rawInt pos.col, .ref c']))) c' (CodeO c' (X.env.qual ++ "<lambda>"))) := frNew (frIn (fun _ _ _ q => q : Fr [P] H H) (List.mem_singleton.mpr rfl)) nC
    have nfP : P ≠ h'.objs.size := fun z => by rw [z, nF0] at hP; cases hP
    have ncP : P ≠ c' := ne_of_none hP nC
    have kF : ∀ b o, upd (upd H P (.tbl (ps ++ #[rawInt pos.line, rawInt pos.col, .ref c']))) c' (CodeO c' (X.env.qual ++ "<lambda>")) b = some o → ∀ u, upd (upd (upd H P (.tbl (ps ++ #[rawInt pos.line, rawInt pos.col, .ref c']))) c' (CodeO c' (X.env.qual ++ "<lambda>"))) h'.objs.size u b = some o := fun b o e u => (upd_ne (ne_of_none e nF)).trans e
    refine h h'.objs.size c' _ _ (known (t1 := tk) ⟨"<lambda>", X.env.qual ++ "<lambda>", params, [], scope, cloFrom X.env.cells scope.names [], c'⟩ ((X.mg "__name__").getD .none) ctv I1) (frNew hF1 nF0) ?_ nF0 ⟨upd_same, kF _ _ upd_same _⟩
    refine ⟨_, kF _ _ (by rw [upd_ne ncP, upd_same]) _, by rw [eL]; exact PySem.TriplesOk_snoc _ _ _ _ ht, fun p' cv hcv => ?_⟩
    rw [eL] at hcv
    rcases among_app _ ht hcv with z | z
    · obtain ⟨c0, e1, e2⟩ := ha p' cv z
      have n0 : c0 ≠ P := fun z => by
        rw [z, hP] at e2
        unfold CodeO at e2
        cases e2
      exact ⟨c0, e1, kF _ _ (hF1 c0 _ (by simpa using n0) e2) _⟩
    · exact ⟨c', z, kF _ _ upd_same _⟩
  | some cv =>
    obtain ⟨c', e, hco⟩ := ha pos cv hc
    subst e
    refine PySem.W.kla_makeFunctionHit (mg := X.mg) (c := c) (P := P) (ps := ps) (closure_ok hfree) I.ok.glob (I.mod.glob.keeps I.bk) hcode (TB.code.keeps I.bk) hP' ht hc bP fun ctv h' tk hx hsz => ?_
    have I1 : Inv X pins σ H { s with heap := h', toks := tk } := I.kept hx
    have nF : H h'.objs.size = none := I1.hok.fresh (Nat.le_refl _)
    have kF : ∀ b o, H b = some o → ∀ u, upd H h'.objs.size u b = some o := fun b o e u => (upd_ne (ne_of_none e nF)).trans e
    refine h h'.objs.size c' _ _ (known (t1 := tk) ⟨"<lambda>", X.env.qual ++ "<lambda>", params, [], scope, cloFrom X.env.cells scope.names [], c'⟩ ((X.mg "__name__").getD .none) ctv I1) (frNew (fun _ _ _ q => q : Fr [P] H H) nF) ⟨ps, kF _ _ hP _, ht, fun p' cv hcv => ?_⟩ nF ⟨upd_same, kF _ _ hco _⟩
    obtain ⟨c0, e1, e2⟩ := ha p' cv hcv
    exact ⟨c0, e1, kF _ _ e2 _⟩
end
/-- the reading of a lambda: the value is its function object -/
def tLamV (P : Addr) (mk : Addr → NF) (e : Expr) : TE := fun σ H Q => TabS H P (mk 0).qual ∧ ∀ (f c' : Addr) (H1 : Hp), Fr [P] H H1 → TabS H1 P (mk 0).qual → H f = none → LmH H1 f (mk c') e → Q (.ref f) H1
abbrev mkLam (X : Cx) (params : Arguments) (scope : Scope) (c' : Addr) : NF := ⟨"<lambda>", X.env.qual ++ "<lambda>", params, [], scope, cloFrom X.env.cells scope.names [], c'⟩
section
variable {X : Cx}
theorem pe_lamV {c P : Addr} {params : Arguments} {body : Expr} {scope : Scope} {pos : Pos} (TB : TabB X.base X.mg c P) (hcode : X.env.code = .ref c) (hdef : defaultsOf params X.env = ([], []))
    (hfree : ∀ y ∈ scope.names, y.2 = .free → X.env.scope.names.lookup y.1 = some .cell ∨ X.env.scope.names.lookup y.1 = some .free) : PE X (.Lambda params body scope pos) (tLamV P (mkLam X params scope) body) :=
  ⟨fun pins s σ H Q I h => lam_mk I TB hcode h.1 hdef (fun y hy e => (hfree y hy e).elim (fun z => I.ok.has _ (.inl z)) fun z => I.ok.has _ (.inr z)) fun f c' H1 s' I1 a b c d => ⟨.ref f, H1, I1, rfl, h.2 f c' H1 a b c d⟩⟩
end
/-! ### what a lambda promises -/
structure LOk (P : Program) (w : World) (K : PySem.W.Frag) (mg : Str → Option Value) (base : Heap) (k : Nat) (F : NF) (e : Expr) (ps fr : List Str) (sp : List (Option V) → Sp) : Prop where
  run : ∀ (A : Around) (outer : List Env) (s : Shared) (H : Hp) (f : Addr) (us : List Value) (vs : List V) (ws : List (Option V)) (Q : VK) (E : XK), Room k A → Env0 P w K mg base A outer s H → LmH H f F e →
    CellsAt F.cl fr ws s.heap H → Vals vs us → sp ws vs H Q E → codeAny (model P w) A (.call (.ref f) ⟨us, []⟩) (CR CX0 outer P w H s Q E) s
abbrev lcx (P : Program) (w : World) (K : PySem.W.Frag) (mg : Str → Option Value) (base : Heap) (N : List Str) (F : NF) (f : Addr) (A : Around) (outer : List Env) (s : Shared) (H : Hp) (E : XK) : Cx := ncx CX0 P w K mg base N F f A outer s H E
theorem lok_of {P : Program} {w : World} {K : PySem.W.Frag} {mg : Str → Option Value} {base : Heap} {N ps fr : List Str} {F : NF} {e : Expr} {k : Nat} {sp : List (Option V) → Sp} (S : NScope N ps fr F.scope)
    (hb : ∀ (pm ctv : Value) (us : List Value), us.length = ps.length → bindArgs (LmD F e pm ctv) ⟨us, []⟩ = pure (ps.zip us)) (len : ∀ ws vs H Q E, sp ws vs H Q E → vs.length = ps.length)
    (hbody : ∀ (f : Addr) (A : Around) (outer : List Env) (s : Shared) (H : Hp) (vs : List V) (ws : List (Option V)) (Q : VK) (E : XK), Room k (A.deeper (envF F f s.heap.objs.size)) → ws.length = fr.length → sp ws vs H Q E →
      ∃ t, PE (lcx P w K mg base N F f A outer s H E) e t ∧ t (startF N vs ws) H Q) : LOk P w K mg base (k + 1) F e ps fr sp := by
  refine ⟨fun A outer s H f us vs ws Q E hr e0 hf C r hsp => ?_⟩
  have hl := len _ _ _ _ _ hsp
  have lim : s.heap.NoLimit := e0.mod.nolimit.keeps fun b o e => (e0.bs b o e).1
  obtain ⟨od, sl, pm, ctv, ho⟩ := lmO_at e0.hok hf.f
  refine PySem.W.kla_callFunE hr.depth ho rfl S.co S.gen rfl (codeO_at e0.hok hf.c) ?_
  rw [hb pm ctv us (by rw [← r.length]; exact hl)]
  refine wpAny_pure (wpAny_newFunctionEnv S.nocell (fun ⟨n, _⟩ hy => S.par n (List.of_mem_zip hy).1) (fun h₁ hns hsb => ⟨lim.fresh _ hsb, ?_⟩) S.kind)
  show codeAny _ _ (.expr e (envF F f s.heap.objs.size)) _ _
  have kp : ∀ b o, s.heap.get? b = some o → h₁.get? b = some o := fun b o e => hsb.extBut b o (Nat.ne_of_lt (Heap.lt_size e)) (Heap.get?_push_of_some _ e)
  obtain ⟨t, ht, hq⟩ := hbody f A outer s H vs ws Q E (hr.deeper _) C.len hsp
  have I : Inv (lcx P w K mg base N F f A outer s H E) [] (startF N vs ws) H { s with heap := h₁, toks := s.toks + (ps.zip us).length } := inv_startN S hr.hd e0 hl r C hns kp
  refine PySem.W.kla_codeExpr (wpAny_mono (ht.run [] _ _ H Q I hq) (fun v s' hs => ?_) fun e s' hs => hs)
  obtain ⟨v', H', J, rv, q⟩ := hs
  exact ⟨v', H', J.os, J.bare, J.base, J.hok, rv, q⟩
/-! ### cells stay -/
theorem cells_later {X : Cx} {pins : List (Addr × Obj)} {σ : L2.St} {H : Hp} {s : Shared} {cl : List (Str × Addr)} {fr : List Str} {ws : List (Option V)} (C : CellsAt cl fr ws X.s_0.heap X.H_0) (hx : X.ex = []) (I : Inv X pins σ H s) : CellsAt cl fr ws s.heap H := by
  have nx : ∀ b : Addr, b ∉ X.ex := fun b z => by rw [hx] at z; cases z
  have kp : ∀ y c, cl.lookup y = some c → ∀ v, X.s_0.heap.IsCell c v → s.heap.IsCell c v := fun y c e v ⟨o, ho, hd⟩ => by
    obtain ⟨sl, q⟩ := I.base.any ho (C.all y c e).1 (nx c)
    exact ⟨_, q, hd⟩
  refine ⟨C.len, fun y c e => ?_, C.inj, fun i y e => ?_⟩
  · obtain ⟨n, v, z⟩ := C.all y c e
    refine ⟨?_, v, kp y c e v z⟩
    obtain ⟨o, ho, _⟩ := z
    exact I.base.free c o ho n (nx c)
  · obtain ⟨c, hc, hv⟩ := C.has i y e
    refine ⟨c, hc, fun v ev => ?_⟩
    obtain ⟨u, r, z⟩ := hv v ev
    exact ⟨u, r, kp y c hc _ z⟩
/-! ### calls of a lambda, by a name that holds it -/
def tCallLm (i : Nat) (F : NF) (e : Expr) (ws : List (Option V)) (sp : List (Option V) → Sp) (t : TA) : TE := fun σ H Q => ∃ g, σ[i]? = some (some (.ref g)) ∧ H g = some (LmO g F e) ∧ t σ H fun vs H1 => LmH H1 g F e ∧ sp ws vs H1 Q E0
section
variable {X : Cx}
theorem pe_callLm {k i : Nat} {F : NF} {b : Expr} {ps fr : List Str} {ws : List (Option V)} {sp : List (Option V) → Sp} {x : Str} {t : TA} {e : Expr} {es : List Expr} {p pos : Pos} (Z : LOk X.prog X.w X.K X.mg X.base k F b ps fr sp)
    (C : ∀ {pins : List (Addr × Obj)} {s : Shared} {σ : L2.St} {H : Hp}, Inv X pins σ H s → CellsAt F.cl fr ws s.heap H) (hr : Room k X.A) (hN : X.N[i]? = some x) (hv : Vis X.env.scope x) (ha : PA X (e :: es) t)
    (hd : (x == ("__debug__" : Str)) = false := by decide) (hcd : (x == ("__classdict__" : Str)) = false := by decide)
    (he : starEach (e :: es) X.env = (false, eval e X.env) :: starEach es X.env := by rfl) (hpl : (backTo pos (starEach es X.env)).any (·.1) = false := by rfl) :
    PE X (.Call (.Name x p) (e :: es) [] pos) (tCallLm i F b ws sp t) := by
  refine ⟨fun pins s σ H Q I h => ?_⟩
  obtain ⟨f, hs, hf, ht⟩ := h
  have fnAt : ∀ {σ1 : L2.St} {H1 : Hp} {s1 : Shared}, Inv X pins σ1 H1 s1 → H1 f = some (LmO f F b) → PySem.W.FnAt f s1.heap := fun J z => by
    obtain ⟨od, sl, pm, ctv, ho⟩ := lmO_at J.hok z
    exact ⟨_, od, _, sl, ho⟩
  refine wpAny_Call_Name_kw (thn ((pe_var (pos := p) hN hv hd hcd).run pins s σ H (fun v H1 => v = .ref f ∧ H1 = H) I ⟨.ref f, hs, rfl, rfl⟩) fun u s1 ⟨v, H1, I1, r1, q1⟩ => ?_)
  obtain ⟨ev, eH⟩ := q1
  subst ev
  rw [eH] at I1
  obtain rfl : u = Value.ref f := r1
  refine PySem.W.callWith_F (first := []) (fnAt I1 hf) (thn (ha.run pos pins s1 σ H _ I1 ht) fun us s2 ⟨vs, H2, I2, r, h1, q⟩ => ⟨fnAt I2 h1.f, ?_⟩) he hpl
  show wpAny _ _ (call (.ref f) us) _ _ _
  refine wpAny_call (codeAny_mono (Z.run X.A X.stack s2 H2 f us vs ws Q E0 hr I2.env0 h1 (C I2) r q) fun r s' hq => ?_)
  cases r with
  | error e => exact pass0 pins σ H2 s2 e s' I2 hq
  | ok fl =>
    cases fl with
    | ret u => exact I2.after hq
    | next => exact False.elim hq
    | brk => exact False.elim hq
    | cont => exact False.elim hq
end
/-! ### defs that are handed a lambda -/
structure FnL (P : Program) (w : World) (K : PySem.W.Frag) (mg : Str → Option Value) (base : Heap) (Z : NF → Prop) (fr : List Str) (k : Nat) (f : Addr) (ps : List Str) (fd : FuncData) (sp : NF → List (Option V) → Sp) : Prop where
  len : ∀ F ws vs H Q E, sp F ws vs H Q E → vs.length = ps.length
  run : ∀ (A : Around) (outer : List Env) (s : Shared) (H : Hp) (args : Args) (us : List Value) (vs : List V) (Q : VK) (E : XK) (F : NF) (ws : List (Option V)), Z F → CellsAt F.cl fr ws s.heap H → Room k A → Env0 P w K mg base A outer s H → BindsTo s fd args (ps.zip us) → Vals vs us → sp F ws vs H Q E →
    codeAny (model P w) A (.call (.ref f) args) (CR CX0 outer P w H s Q E) s
structure HasL (P : Program) (w : World) (K : PySem.W.Frag) (mg : Str → Option Value) (base : Heap) (Z : NF → Prop) (fr : List Str) (k : Nat) (x : Str) (ps : List Str) (sp : NF → List (Option V) → Sp) : Prop where
  ex : ∃ (f : Addr) (fd : FuncData), FnL P w K mg base Z fr k f ps fd sp ∧ mg x = some (.ref f) ∧ PySem.W.keepIn K (.ref f) = true ∧ L2.Binds K fd ps []
theorem hasL_of {P : Program} {w : World} {K : PySem.W.Frag} {mg : Str → Option Value} {base : Heap} {Z : NF → Prop} {fr : List Str} {x : Str} {st : Stmt} {N ps : List Str} {k : Nat} {sp : NF → List (Option V) → Sp} (D : DefIn K mg x st) (S : FnScope N ps (defScope st))
    (hb : ∀ (kV doc pm : Value) (an : Option Addr) (cdv ct : Value) (us : List Value), us.length = ps.length → bindArgs (PySem.W.fnOf x x (defArgs st) (defBody st) (defScope st) .none kV doc pm an cdv ct) ⟨us, []⟩ = pure (ps.zip us))
    (len : ∀ F ws vs H Q E, sp F ws vs H Q E → vs.length = ps.length)
    (hbody : ∀ (f : Addr) (cdv : Value) (A : Around) (outer : List Env) (s : Shared) (H : Hp) (vs : List V) (Q : VK) (E : XK) (F : NF) (ws : List (Option V)), Z F → CellsAt F.cl fr ws s.heap H → Room k (A.deeper (envOfC x (defScope st) s.heap.objs.size f cdv)) → sp F ws vs H Q E →
      ∃ t, PSs (bx P w K mg base N x st f cdv A outer s H E) (defBody st) t ∧ t { nx := fun _ H' => Q .non H', rt := Q } (start N vs) H) : HasL P w K mg base Z fr (k + 1) x ps sp := by
  obtain ⟨f, fd, F, m⟩ := D.ex
  refine ⟨f, fd, ⟨len, ?_⟩, m, F.kp, F.binds hb⟩
  obtain ⟨oc, od, kV, doc, pm, an, cdv, ct, osl, rfl, lk, hcd⟩ := F.ex
  intro A outer s H args us vs Q E G ws hz hC hr e0 hargs r hsp
  exact run_ofS lk hcd S hr e0 hargs r (len _ _ _ _ _ _ hsp) fun hr' => by
    obtain ⟨t, ht, hq⟩ := hbody f cdv A outer s H vs Q E G ws hz hC hr' hsp
    exact ⟨t, ht.nox, hq⟩
/-- the call: mk c' is the lambda (c' its code object, known at the run alone) -/
def tCallL2 (mk : Addr → NF) (ws : L2.St → List (Option V)) (sp : NF → List (Option V) → Sp) (t : TA) : TE := fun σ H Q => t σ H fun vs H1 => ∃ c', sp (mk c') (ws σ) vs H1 Q E0
section
variable {X : Cx}
theorem pe_hL {Z : NF → Prop} {fr : List Str} {k : Nat} {x : Str} {ps : List Str} {sp : NF → List (Option V) → Sp} {mk : Addr → NF} {ws : L2.St → List (Option V)} {e : Expr} {es : List Expr} {t : TA} {p pos : Pos} (h : HasL X.prog X.w X.K X.mg X.base Z fr k x ps sp) (hz : ∀ c', Z (mk c'))
    (C : ∀ {pins : List (Addr × Obj)} {s : Shared} {σ : L2.St} {H : Hp} (c' : Addr), Inv X pins σ H s → CellsAt (mk c').cl fr (ws σ) s.heap H) (hr : Room k X.A) (ha : PA X (e :: es) t) (hg : Gl X x := by rfl)
    (hdb : (x == ("__debug__" : Str)) = false := by decide) (he : starEach (e :: es) X.env = (false, eval e X.env) :: starEach es X.env := by rfl) (hpl : (backTo pos (starEach es X.env)).any (·.1) = false := by rfl) :
    PE X (.Call (.Name x p) (e :: es) [] pos) (tCallL2 mk ws sp t) := by
  obtain ⟨f, fd, F, hm, hk, b⟩ := h.ex
  refine ⟨fun pins s σ H Q I h => wpAny_Call_Name_kw (ld_glob I hg hm (PySem.W.callWith_K (h₀ := X.base) I.ok.mod.kin hk (thn (ha.run pos pins s σ H _ I h) fun us s1 hs => ?_) he hpl) hdb)⟩
  obtain ⟨vs, H1, I1, r, c', z⟩ := hs
  refine ⟨I1.kIn, ?_⟩
  have hl : us.length = ps.length := by rw [← r.length]; exact F.len _ _ _ _ _ _ z
  have b1 := b s1 us I1.kIn (by rw [List.append_nil]; exact hl)
  rw [List.append_nil] at b1
  refine wpAny_call (codeAny_mono (F.run X.A X.stack s1 H1 ⟨us, []⟩ us vs Q E0 (mk c') (ws σ) (hz c') (C c' I1) hr I1.env0 b1 r z) fun r2 s' hq => ?_)
  cases r2 with
  | error e => exact pass0 pins σ H1 s1 e s' I1 hq
  | ok fl =>
    cases fl with
    | ret u => exact I1.after hq
    | next => exact False.elim hq
    | brk => exact False.elim hq
    | cont => exact False.elim hq
end
/-! ### defs that make one: their code object and its table -/
def codA (K : PySem.W.Frag) (f : Addr) : Addr := match K.lookup f with
  | some ⟨_, _, .func fd, _⟩ => (match fd.code with | .ref c => c | _ => 0)
  | _ => 0
def tabA (K : PySem.W.Frag) (c : Addr) : Addr := match K.lookup c with
  | some ⟨_, _, .fields vs, _⟩ => (match (vs[11]? : Option Value) with | some (.ref P) => P | _ => 0)
  | _ => 0
theorem codeIn_ref {K : PySem.W.Frag} {cd : Value} {q : Str} (h : PySem.W.codeIn K cd q = true) : ∃ c, cd = .ref c := by
  cases cd with
  | ref c => exact ⟨c, rfl⟩
  | _ => cases h
theorem codA_of {K : PySem.W.Frag} {f c : Addr} {oc : Value} {od : Option Addr} {fd : FuncData} {osl : Array (Option Value)} (lk : K.lookup f = some ⟨oc, od, .func fd, osl⟩) (e : fd.code = .ref c) : codA K f = c := by
  unfold codA
  rw [lk]
  simp only [e]
theorem hasDT_of {P : Program} {w : World} {K : PySem.W.Frag} {mg : Str → Option Value} {base : Heap} {x : Str} {st : Stmt} {N ps : List Str} {k : Nat} {sp : Sp} {dvs : List V} (D : DefInD K mg x st dvs) (S : FnScope N ps (defScope st)) (n j : Nat) (hd : dvs ≠ []) (hn : n + (dvs.length - j) = ps.length)
    (hb : ∀ (T : Addr) (kV doc pm : Value) (an : Option Addr) (cdv ct : Value) (us its : List Value), us.length = n → its.length = dvs.length →
      ∃ k, bindArgs (PySem.W.fnOf x x (defArgs st) (defBody st) (defScope st) (.ref T) kV doc pm an cdv ct) ⟨us, []⟩ = seqItems? (.ref T) >>= k ∧ k (some its.toArray) = pure (ps.zip (us ++ its.drop j)))
    (len : ∀ vs H Q E, sp vs H Q E → vs.length = ps.length)
    (hbody : ∀ (f c : Addr) (A : Around) (outer : List Env) (s : Shared) (H : Hp) (vs : List V) (Q : VK) (E : XK), c = codA K (adr mg x) → Room k (A.deeper (envOfC x (defScope st) s.heap.objs.size f (.ref c))) → sp vs H Q E →
      ∃ t, PSs (bx P w K mg base N x st f (.ref c) A outer s H E) (defBody st) t ∧ t { nx := fun _ H' => Q .non H', rt := Q } (start N vs) H) : HasD P w K mg base (k + 1) x ps (dvs.drop j) sp := by
  obtain ⟨f, fd, F, m⟩ := D.ex
  obtain ⟨ds, r, b⟩ := F.binds1 n j hd hn hb
  refine ⟨f, fd, ds, ?_, m, F.kp, r, b⟩
  obtain ⟨oc, od, dV, kV, doc, pm, an, cdv, ct, osl, e, lk, hcd, _, _⟩ := F.ex
  obtain ⟨c, rfl⟩ := codeIn_ref hcd
  subst e
  refine fn_of lk hcd S len fun A outer s H vs Q E hr hsp => ?_
  obtain ⟨t, ht, q⟩ := hbody f c A outer s H vs Q E (by rw [adr_of m]; exact (codA_of lk rfl).symm) hr hsp
  exact ⟨t, ht.nox, q⟩
end Fl

set_option Elab.async false
set_option linter.all false
set_option maxRecDepth 100000
set_option maxHeartbeats 4000000
/-! the end by one kernel run, with tables of code objects -/
namespace Fl
open PySem PySem.Spec PyProof.Rows L2 He
def tbE : Option Obj → Bool
  | some ⟨.none, none, .fields vs, sl⟩ => decide (vs.size = 0) && decide (sl.size = 0)
  | _ => false
theorem tbE_ok {o : Option Obj} (h : tbE o = true) : o = some { cls := .none, data := .fields #[] } := by
  unfold tbE at h
  split at h
  · rename_i vs sl
    obtain ⟨h1, h2⟩ := ba h
    have e1 := Array.eq_empty_of_size_eq_zero (of_decide_eq_true h1)
    have e2 := Array.eq_empty_of_size_eq_zero (of_decide_eq_true h2)
    rw [e1, e2]
  · cases h
def hookT (as Ps : List Addr) (cs : List Chk) (fn : List DefD) (ts : List Tab) : PySem.W.Hook where
  α := AlT × Bool
  obs := fun s => (obsC cs fn ts (frG s.heap.get? as), Ps.all fun P => tbE (s.heap.get? P))
  val := fun w => (valT fn ts w, true)
  says := fun w h => (∃ K : PySem.W.Frag, K.In h ∧ obsC cs fn ts K = valT fn ts w) ∧ ∀ P, P ∈ Ps → h.get? P = some { cls := .none, data := .fields #[] }
  of := fun _ _ e => ⟨⟨_, frG_in, congrArg Prod.fst e⟩, fun P m => tbE_ok (List.all_eq_true.mp (congrArg Prod.snd e) P m)⟩
  keeps := fun _ _ _ ⟨⟨K, hK, c⟩, t⟩ k => ⟨⟨K, PySem.W.Frag.In.keeps hK k, c⟩, fun P m => k _ _ (t P m)⟩
def obT (as Ps : List Addr) (cs : List Chk) (fn : List DefD) (ts : List Tab) (s : PySem.W.SharedT) : AlT × Bool := (obsC cs fn ts (frG (HandSHeadRun.getT s) as), Ps.all fun P => tbE (HandSHeadRun.getT s P))
theorem obT_eq {as Ps : List Addr} {cs : List Chk} {fn : List DefD} {ts : List Tab} (s : PySem.W.SharedT) : obT as Ps cs fn ts s = (hookT as Ps cs fn ts).obs s.abs := by
  show (obsC cs fn ts (frG (HandSHeadRun.getT s) as), Ps.all fun P => tbE (HandSHeadRun.getT s P)) = (obsC cs fn ts (frG s.abs.heap.get? as), Ps.all fun P => tbE (s.abs.heap.get? P))
  rw [show HandSHeadRun.getT s = s.abs.heap.get? from funext (HandSHeadRun.getT_eq s)]
/-- the code object at c and its table at P -/
def cTab (f : PySem.W.Frag → Addr) (c P : Addr) : Chk := fun K => (codA K (f K) == c) && ((tabA K c == P) && (PySem.W.codeHdIn K c P && (K.lookup P).isNone))
theorem tab_ok {f : PySem.W.Frag → Addr} {c P : Addr} {K : PySem.W.Frag} (h : cTab f c P K = true) : codA K (f K) = c ∧ tabA K c = P ∧ PySem.W.codeHdIn K c P = true ∧ K.lookup P = none := by
  obtain ⟨h1, h⟩ := ba h
  obtain ⟨h2, h⟩ := ba h
  obtain ⟨h3, h4⟩ := ba h
  exact ⟨beq_iff_eq.mp h1, beq_iff_eq.mp h2, h3, Option.isNone_iff_eq_none.mp h4⟩
end Fl

set_option Elab.async false
set_option linter.all false
set_option maxRecDepth 100000
set_option maxHeartbeats 4000000
set_option exponentiation.threshold 20000
namespace K22
open PySem PySem.Spec PyProof.Rows L2 Fl
-- facts of a place in the heap
local macro_rules | `(tactic| walk_at "fl.ne") => `(tactic| ((with_reducible apply DeckAt.ne'); (focus assumption); walk_at "fl.deck"))
local macro_rules | `(tactic| walk_at "fl.ne") => `(tactic| exact Ne.symm (by assumption))
local macro_rules | `(tactic| walk_at "fl.ne") => `(tactic| assumption)
local macro_rules | `(tactic| walk_at "fl.look") => `(tactic| ((with_reducible apply Fl.Same.t); (focus assumption); walk_at "fl.look"))
local macro_rules | `(tactic| walk_at "fl.look") => `(tactic| ((with_reducible apply Same.seq); (focus assumption); walk_at "fl.look"))
local macro_rules | `(tactic| walk_at "fl.look") => `(tactic| ((with_reducible apply Ex1.t); (focus assumption); (focus walk_at "fl.ne"); walk_at "fl.look"))
local macro_rules | `(tactic| walk_at "fl.look") => `(tactic| ((with_reducible apply Ex1.l); (focus assumption); (focus walk_at "fl.ne"); walk_at "fl.look"))
local macro_rules | `(tactic| walk_at "fl.look") => `(tactic| ((with_reducible apply Fl.Same.t); (focus exact Fl.Same.new (by assumption)); walk_at "fl.look"))
local macro_rules | `(tactic| walk_at "fl.look") => `(tactic| ((with_reducible apply Same.seq); (focus exact Fl.Same.new (by assumption)); walk_at "fl.look"))
local macro_rules | `(tactic| walk_at "fl.look") => `(tactic| ((with_reducible apply Ex1.t); (focus with_reducible exact Ex1.upd); (focus walk_at "fl.ne"); walk_at "fl.look"))
local macro_rules | `(tactic| walk_at "fl.look") => `(tactic| ((with_reducible apply Ex1.l); (focus with_reducible exact Ex1.upd); (focus walk_at "fl.ne"); walk_at "fl.look"))
local macro_rules | `(tactic| walk_at "fl.look") => `(tactic| ((with_reducible apply SqT.of); assumption))
local macro_rules | `(tactic| walk_at "fl.look") => `(tactic| ((with_reducible apply SqL.of); assumption))
local macro_rules | `(tactic| walk_at "fl.look") => `(tactic| (with_reducible exact SqT.of upd_same))
local macro_rules | `(tactic| walk_at "fl.look") => `(tactic| (with_reducible exact SqL.of upd_same))
local macro_rules | `(tactic| walk_at "fl.look") => `(tactic| ((with_reducible show RV _ _ _ _); (with_reducible apply RV.same); (focus exact Fl.Same.new (by assumption)); walk_at "fl.look"))
local macro_rules | `(tactic| walk_at "fl.look") => `(tactic| ((with_reducible show RV _ _ _ _); (with_reducible apply RV.same); (focus assumption); walk_at "fl.look"))
local macro_rules | `(tactic| walk_at "fl.look") => `(tactic| ((with_reducible show RV _ _ _ _); (with_reducible apply RV.ex1); (focus assumption); (focus walk_at "fl.ne"); walk_at "fl.look"))
local macro_rules | `(tactic| walk_at "fl.look") => `(tactic| assumption)
-- arithmetic that an operation asks
local macro_rules | `(tactic| walk_at "fl.side") => `(tactic| exact div62 (by first | assumption | decide | omega) (by first | assumption | decide | omega))
local macro_rules | `(tactic| walk_at "fl.side") => `(tactic| exact divS (by first | assumption | omega) (by first | assumption | omega))
local macro_rules | `(tactic| walk_at "fl.side") => `(tactic| exact divW (by first | assumption | omega) (by first | assumption | omega))
local macro_rules | `(tactic| walk_at "fl.side") => `(tactic| exact mulW (by first | assumption | omega) (by first | assumption | omega))
local macro_rules | `(tactic| walk_at "fl.side") => `(tactic| exact Or.inl (by decide))
local macro_rules | `(tactic| walk_at "fl.side") => `(tactic| (refine ⟨?_, ?_, ?_⟩ <;> decide))
local macro_rules | `(tactic| walk_at "fl.side") => `(tactic| exact Or.inr (by decide))
local macro_rules | `(tactic| walk_at "fl.side") => `(tactic| (simp only [List.length_cons, List.length_nil]; omega))
local macro_rules | `(tactic| walk_at "fl.side") => `(tactic| omega)
local macro_rules | `(tactic| walk_at "fl.side") => `(tactic| assumption)
local macro_rules | `(tactic| walk_at "fl.side") => `(tactic| decide)
local macro_rules | `(tactic| walk_at "fl.kit") => `(tactic| first | exact kit_int_int | exact kit_int_bool | exact kit_int_tuple | exact kit_int_str | exact kit_int_list | exact kit_int_dict | exact kit_bool_int | exact kit_bool_bool | exact kit_bool_tuple | exact kit_bool_str | exact kit_bool_list | exact kit_bool_dict | exact kit_tuple_int | exact kit_tuple_bool | exact kit_tuple_tuple | exact kit_tuple_str | exact kit_tuple_list | exact kit_tuple_dict | exact kit_str_int | exact kit_str_bool | exact kit_str_tuple | exact kit_str_str | exact kit_str_list | exact kit_str_dict | exact kit_list_int | exact kit_list_bool | exact kit_list_tuple | exact kit_list_str | exact kit_list_list | exact kit_list_dict | exact kit_NoneType_int | exact kit_NoneType_bool | exact kit_NoneType_tuple | exact kit_NoneType_str | exact kit_NoneType_list | exact kit_NoneType_dict | exact kit_dict_int | exact kit_dict_bool | exact kit_dict_tuple | exact kit_dict_str | exact kit_dict_list | exact kit_dict_dict)
local macro_rules | `(tactic| walk_at "fl.ty") => `(tactic| (apply TyX.base; apply TyOf.lst; assumption))
local macro_rules | `(tactic| walk_at "fl.ty") => `(tactic| (apply TyX.base; apply TyOf.tup; assumption))
local macro_rules | `(tactic| walk_at "fl.ty") => `(tactic| exact .base (.lst upd_same))
local macro_rules | `(tactic| walk_at "fl.ty") => `(tactic| exact .base (.tup upd_same))
local macro_rules | `(tactic| walk_at "fl.ty") => `(tactic| exact .base (.str _))
local macro_rules | `(tactic| walk_at "fl.ty") => `(tactic| exact .base .non)
local macro_rules | `(tactic| walk_at "fl.ty") => `(tactic| exact .base (.bl _))
local macro_rules | `(tactic| walk_at "fl.ty") => `(tactic| exact .base (.int _))
local macro_rules | `(tactic| walk_at "fl.deck") => `(tactic| (refine DeckAt.same ?_ (by assumption); walk_at "fl.deck"))
local macro_rules | `(tactic| walk_at "fl.deck") => `(tactic| (refine DeckAt.same ?_ (Fl.Same.new (by assumption)); walk_at "fl.deck"))
local macro_rules | `(tactic| walk_at "fl.deck") => `(tactic| assumption)
local macro_rules | `(tactic| walk_at "fl.ex1") => `(tactic| (refine Ex1.trans ?_ (Ex1.of (by assumption)); walk_at "fl.ex1"))
local macro_rules | `(tactic| walk_at "fl.ex1") => `(tactic| (refine Ex1.trans ?_ (by assumption); walk_at "fl.ex1"))
local macro_rules | `(tactic| walk_at "fl.ex1") => `(tactic| (refine Ex1.trans ?_ (Ex1.of (Fl.Same.new (by assumption))); walk_at "fl.ex1"))
local macro_rules | `(tactic| walk_at "fl.ex1") => `(tactic| (refine Ex1.trans ?_ Ex1.upd; walk_at "fl.ex1"))
local macro_rules | `(tactic| walk_at "fl.ex1") => `(tactic| exact Ex1.upd)
local macro_rules | `(tactic| walk_at "fl.ex1") => `(tactic| exact Ex1.refl)
local macro_rules | `(tactic| walk_at "fl.ex1") => `(tactic| assumption)
local macro_rules | `(tactic| walk_at "fl.pre") => `(tactic| first | assumption | trivial | exact ne_of_num (by assumption))
local macro_rules | `(tactic| walk_at "fl.szq") => `(tactic| exact szq_div (k := 41) (by decide) (by omega) (by decide))
local macro_rules | `(tactic| walk_at "fl.szq") => `(tactic| ((with_reducible apply Szq.div); (focus walk_at "fl.szq"); (focus walk_at "fl.szq"); (focus walk_at "fl.pre")))
local macro_rules | `(tactic| walk_at "fl.szq") => `(tactic| ((with_reducible apply Szq.mul); (focus walk_at "fl.szq"); (focus walk_at "fl.szq")))
local macro_rules | `(tactic| walk_at "fl.szq") => `(tactic| ((with_reducible apply Szq.sub); (focus walk_at "fl.szq"); (focus walk_at "fl.szq")))
local macro_rules | `(tactic| walk_at "fl.szq") => `(tactic| ((with_reducible apply Szq.add); (focus walk_at "fl.szq"); (focus walk_at "fl.szq")))
local macro_rules | `(tactic| walk_at "fl.szq") => `(tactic| assumption)
local macro_rules | `(tactic| walk_at "fl.md") => `(tactic| first | assumption | ((with_reducible apply Szq.md); (focus walk_at "fl.szq"); decide))
local macro_rules | `(tactic| walk_at "fl.rat") => `(tactic| exact Rat.div_mul_cancel (ne_of_num (by assumption)))
local macro_rules | `(tactic| walk_at "fl.rat") => `(tactic| exact Rat.mul_div_cancel (ne_of_num (by assumption)))
local macro_rules | `(tactic| walk_at "fl.rat") => `(tactic| exact Rat.add_sub_cancel)
local macro_rules | `(tactic| walk_at "fl.rat") => `(tactic| exact Rat.mul_add _ _ _)
local macro_rules | `(tactic| walk_at "fl.rat") => `(tactic| exact Rat.mul_assoc _ _ _)
local macro_rules | `(tactic| walk_at "fl.rat") => `(tactic| exact Rat.add_assoc _ _ _)
local macro_rules | `(tactic| walk_at "fl.rat") => `(tactic| exact Rat.mul_comm _ _)
local macro_rules | `(tactic| walk_at "fl.rat") => `(tactic| exact Rat.add_comm _ _)
local macro_rules | `(tactic| walk_at "fl.rat") => `(tactic| rfl)
-- one step of a reading
local macro_rules | `(tactic| walk_at "fl.s") => `(tactic| ((with_reducible show ∀ (p : Addr), (_ : Option HO) = none → _); intro _ _))
local macro_rules | `(tactic| walk_at "fl.s") => `(tactic| (with_reducible refine g_iteNF ?_))
local macro_rules | `(tactic| walk_at "fl.s") => `(tactic| (with_reducible refine g_iteNT ?_))
local macro_rules | `(tactic| walk_at "fl.s") => `(tactic| (with_reducible refine g_iteF ?_))
local macro_rules | `(tactic| walk_at "fl.s") => `(tactic| (with_reducible refine g_iteT ?_))
local macro_rules | `(tactic| walk_at "fl.s") => `(tactic| (with_reducible refine g_lstN ?_))
local macro_rules | `(tactic| walk_at "fl.s") => `(tactic| (with_reducible refine g_tupN ?_))
local macro_rules | `(tactic| walk_at "fl.s") => `(tactic| (with_reducible refine g_tup2 ?_))
local macro_rules | `(tactic| walk_at "fl.s") => `(tactic| (with_reducible refine g_nil ?_))
local macro_rules | `(tactic| walk_at "fl.s") => `(tactic| (with_reducible refine g_cons ?_))
local macro_rules | `(tactic| walk_at "fl.s") => `(tactic| ((with_reducible apply ne_app); (focus walk_at "fl.look"); (focus walk_at "fl.look"); (focus walk_at "fl.rat")))
local macro_rules | `(tactic| walk_at "fl.s") => `(tactic| ((with_reducible apply nr_app); (focus walk_at "fl.look"); (focus walk_at "fl.md")))
local macro_rules | `(tactic| walk_at "fl.s") => `(tactic| ((with_reducible apply cq_app); (focus walk_at "fl.look"); (focus walk_at "fl.look"); (focus walk_at "fl.md"); (focus walk_at "fl.md")))
local macro_rules | `(tactic| walk_at "fl.s") => `(tactic| ((with_reducible apply bin_app); (focus walk_at "fl.look"); (focus walk_at "fl.look"); (focus walk_at "fl.md"); (focus walk_at "fl.md"); (focus walk_at "fl.pre"); intro _ _ _ _ _))
local macro_rules | `(tactic| walk_at "fl.s") => `(tactic| ((with_reducible show spRatq _ _ _ _ _); (apply ratq_app); (focus walk_at "fl.side"); (focus walk_at "fl.side"); (focus walk_at "fl.side"); intro _ _ _ _ _))
local macro_rules | `(tactic| walk_at "fl.s") => `(tactic| (with_reducible refine g_callD ?_))
local macro_rules | `(tactic| walk_at "fl.s") => `(tactic| (with_reducible refine sameI_app ?_))
local macro_rules | `(tactic| walk_at "fl.s") => `(tactic| (with_reducible refine isint_app ?_))
local macro_rules | `(tactic| walk_at "fl.s") => `(tactic| ((with_reducible apply near2_app); (focus walk_at "fl.look"); (focus assumption); intro _ _ _ _ _))
local macro_rules | `(tactic| walk_at "fl.s") => `(tactic| ((with_reducible apply down2_app); (focus walk_at "fl.look"); (focus assumption); intro _ _ _ _ _ _))
local macro_rules | `(tactic| walk_at "fl.s") => `(tactic| ((with_reducible apply cmp_app); (focus walk_at "fl.look"); (focus walk_at "fl.look"); (focus assumption); (focus assumption)))
local macro_rules | `(tactic| walk_at "fl.s") => `(tactic| ((with_reducible refine fra_app ?_ ?_ ?_ ?_); (focus walk_at "fl.side"); (focus walk_at "fl.side"); (focus walk_at "fl.side"); intro _ _ _ _ _))
local macro_rules | `(tactic| walk_at "fl.s") => `(tactic| ((with_reducible apply deck_app); (focus walk_at "fl.look"); intro _ _ _ _ _))
local macro_rules | `(tactic| walk_at "fl.s") => `(tactic| ((with_reducible refine big_app ?_ ?_); (focus walk_at "fl.deck"); intro _ _ _ _ _ _ _ _ _))
local macro_rules | `(tactic| walk_at "fl.s") => `(tactic| ((with_reducible refine draw_app ?_ ?_ ?_ ?_); (focus walk_at "fl.deck"); (focus walk_at "fl.side"); (focus walk_at "fl.side"); intro _ _ _ _ _ _))
local macro_rules | `(tactic| walk_at "fl.s") => `(tactic| (with_reducible refine g_call ?_))
local macro_rules | `(tactic| walk_at "fl.s") => `(tactic| (with_reducible refine g_drop ?_))
local macro_rules | `(tactic| walk_at "fl.s") => `(tactic| (with_reducible refine g_ipI ?_))
local macro_rules | `(tactic| walk_at "fl.s") => `(tactic| ((with_reducible apply g_aug); (focus rfl)))
local macro_rules | `(tactic| walk_at "fl.s") => `(tactic| (with_reducible refine g_set ?_))
local macro_rules | `(tactic| walk_at "fl.s") => `(tactic| ((with_reducible apply g_setL); (focus first | assumption | exact upd_same); (focus rfl)))
local macro_rules | `(tactic| walk_at "fl.s") => `(tactic| (with_reducible refine g_setS ?_))
local macro_rules | `(tactic| walk_at "fl.s") => `(tactic| (with_reducible refine g_if ?_))
local macro_rules | `(tactic| walk_at "fl.s") => `(tactic| (with_reducible refine g_ret ?_))
local macro_rules | `(tactic| walk_at "fl.s") => `(tactic| (with_reducible refine g_next ?_))
local macro_rules | `(tactic| walk_at "fl.s") => `(tactic| (with_reducible refine g_notV ?_))
local macro_rules | `(tactic| walk_at "fl.s") => `(tactic| (with_reducible refine g_orV ?_))
local macro_rules | `(tactic| walk_at "fl.s") => `(tactic| (with_reducible refine g_andV ?_))
local macro_rules | `(tactic| walk_at "fl.s") => `(tactic| (with_reducible refine g_or ?_))
local macro_rules | `(tactic| walk_at "fl.s") => `(tactic| (with_reducible refine g_and ?_))
local macro_rules | `(tactic| walk_at "fl.s") => `(tactic| (with_reducible refine g_not ?_))
local macro_rules | `(tactic| walk_at "fl.s") => `(tactic| (with_reducible refine g_ex ?_))
local macro_rules | `(tactic| walk_at "fl.s") => `(tactic| (with_reducible refine g_bl ?_))
local macro_rules | `(tactic| walk_at "fl.s") => `(tactic| (with_reducible refine g_B ?_))
local macro_rules | `(tactic| walk_at "fl.s") => `(tactic| (with_reducible refine g_test ?_))
local macro_rules | `(tactic| walk_at "fl.s") => `(tactic| (with_reducible refine g_eqB ?_))
local macro_rules | `(tactic| walk_at "fl.s") => `(tactic| (with_reducible refine g_neI ?_))
local macro_rules | `(tactic| walk_at "fl.s") => `(tactic| (with_reducible refine g_eqI ?_))
local macro_rules | `(tactic| walk_at "fl.s") => `(tactic| ((with_reducible refine g_tup2 ?_)))
local macro_rules | `(tactic| walk_at "fl.s") => `(tactic| ((with_reducible refine g_new ?_ ?_); (focus walk_at "fl.side"); intro _ _))
local macro_rules | `(tactic| walk_at "fl.s") => `(tactic| ((with_reducible apply g_listL); (focus walk_at "fl.look"); intro _ _))
local macro_rules | `(tactic| walk_at "fl.s") => `(tactic| ((with_reducible apply g_isiT); (focus walk_at "fl.ty"); (focus walk_at "fl.kit")))
local macro_rules | `(tactic| walk_at "fl.s") => `(tactic| (with_reducible refine g_gcd ?_))
local macro_rules | `(tactic| walk_at "fl.s") => `(tactic| ((with_reducible apply g_lenT); (focus walk_at "fl.look")))
local macro_rules | `(tactic| walk_at "fl.s") => `(tactic| ((with_reducible apply g_lenL); (focus walk_at "fl.look")))
local macro_rules | `(tactic| walk_at "fl.s") => `(tactic| (with_reducible refine g_min ?_))
local macro_rules | `(tactic| walk_at "fl.s") => `(tactic| (with_reducible refine g_max ?_))
local macro_rules | `(tactic| walk_at "fl.s") => `(tactic| (with_reducible refine g_abs ?_))
local macro_rules | `(tactic| walk_at "fl.s") => `(tactic| (with_reducible refine g_intB ?_))
local macro_rules | `(tactic| walk_at "fl.s") => `(tactic| (with_reducible refine g_int ?_))
local macro_rules | `(tactic| walk_at "fl.s") => `(tactic| (with_reducible refine g_cb2 ?_))
local macro_rules | `(tactic| walk_at "fl.s") => `(tactic| (with_reducible refine g_cb1 ?_))
local macro_rules | `(tactic| walk_at "fl.s") => `(tactic| ((with_reducible apply g_ixT); (focus walk_at "fl.look"); (focus first | assumption | rfl)))
local macro_rules | `(tactic| walk_at "fl.s") => `(tactic| ((with_reducible apply g_ixL); (focus walk_at "fl.look"); (focus first | assumption | rfl)))
local macro_rules | `(tactic| walk_at "fl.s") => `(tactic| (with_reducible refine g_un ?_))
local macro_rules | `(tactic| walk_at "fl.s") => `(tactic| (with_reducible refine g_U ?_))
local macro_rules | `(tactic| walk_at "fl.s") => `(tactic| ((with_reducible apply g_I); (focus walk_at "fl.side")))
local macro_rules | `(tactic| walk_at "fl.s") => `(tactic| (with_reducible refine g_I0 ?_))
local macro_rules | `(tactic| walk_at "fl.s") => `(tactic| (with_reducible refine g_c ?_))
local macro_rules | `(tactic| walk_at "fl.s") => `(tactic| ((with_reducible apply g_var); (focus rfl)))
local macro_rules | `(tactic| walk_at "fl.s") => `(tactic| (with_reducible refine g_op ?_))
local macro_rules | `(tactic| walk_at "fl.s") => `(tactic| (with_reducible refine g_seq ?_))
local macro_rules | `(tactic| walk_at "fl.go") => `(tactic| repeat walk_at "fl.s")
local macro_rules | `(tactic| walk_at "fl.run") => `(tactic| ((repeat walk_at "fl.s"); try (first
  | (refine g_ite (fun _ => ?_) (fun _ => ?_); all_goals walk_at "fl.run")
  | (refine g_iteN (fun _ => ?_) (fun _ => ?_); all_goals walk_at "fl.run"))))

local macro_rules | `(tactic| walk_at "fl.raw") => `(tactic| ((with_reducible apply raw_frd); (focus assumption); (focus walk_at "fl.nd"); walk_at "fl.raw"))
local macro_rules | `(tactic| walk_at "fl.raw") => `(tactic| ((with_reducible apply raw_on); (focus assumption); (focus walk_at "fl.nd"); walk_at "fl.raw"))
local macro_rules | `(tactic| walk_at "fl.raw") => `(tactic| ((with_reducible apply raw_same); (focus assumption); walk_at "fl.raw"))
local macro_rules | `(tactic| walk_at "fl.raw") => `(tactic| ((with_reducible apply raw_new); (focus assumption); walk_at "fl.raw"))
local macro_rules | `(tactic| walk_at "fl.raw") => `(tactic| exact upd_same)
local macro_rules | `(tactic| walk_at "fl.raw") => `(tactic| assumption)
local macro_rules | `(tactic| walk_at "fl.nd") => `(tactic| exact Dk.ned2 (by assumption) (by assumption))
local macro_rules | `(tactic| walk_at "fl.nd") => `(tactic| assumption)
local macro_rules | `(tactic| walk_at "fl.frd") => `(tactic| ((with_reducible apply Fl.Fr.frT); (focus assumption); walk_at "fl.frd"))
local macro_rules | `(tactic| walk_at "fl.frd") => `(tactic| ((with_reducible apply Fl.Fr.smT); (focus assumption); walk_at "fl.frd"))
local macro_rules | `(tactic| walk_at "fl.frd") => `(tactic| ((with_reducible apply Fl.Fr.ond); (focus assumption); walk_at "fl.frd"))
local macro_rules | `(tactic| walk_at "fl.frd") => `(tactic| ((with_reducible apply Fl.Fr.newT); (focus assumption); walk_at "fl.frd"))
local macro_rules | `(tactic| walk_at "fl.frd") => `(tactic| exact Fl.Fr.refl)
local macro_rules | `(tactic| walk_at "fl.frd") => `(tactic| assumption)
local macro_rules | `(tactic| walk_at "fl.lk") => `(tactic| ((with_reducible apply SqT.of); walk_at "fl.raw"))
local macro_rules | `(tactic| walk_at "fl.lk") => `(tactic| ((with_reducible apply SqL.of); walk_at "fl.raw"))
local macro_rules | `(tactic| walk_at "fl.dq") => `(tactic| ((with_reducible apply Dq.frd); (focus assumption); (focus first | assumption | simp); walk_at "fl.dq"))
local macro_rules | `(tactic| walk_at "fl.dq") => `(tactic| ((with_reducible apply Dq.ond); (focus assumption); (focus first | assumption | simp); walk_at "fl.dq"))
local macro_rules | `(tactic| walk_at "fl.dq") => `(tactic| ((with_reducible apply Dq.sm); (focus assumption); walk_at "fl.dq"))
local macro_rules | `(tactic| walk_at "fl.dq") => `(tactic| ((with_reducible apply Dq.newH); (focus assumption); walk_at "fl.dq"))
local macro_rules | `(tactic| walk_at "fl.dq") => `(tactic| exact Dq.non)
local macro_rules | `(tactic| walk_at "fl.dq") => `(tactic| exact Dq.bl _)
local macro_rules | `(tactic| walk_at "fl.dq") => `(tactic| exact Dq.int _)
local macro_rules | `(tactic| walk_at "fl.dq") => `(tactic| assumption)
local macro_rules | `(tactic| walk_at "fl.dqa") => `(tactic| ((with_reducible apply DqA.sm); (focus assumption); walk_at "fl.dqa"))
local macro_rules | `(tactic| walk_at "fl.dqa") => `(tactic| ((with_reducible apply DqA.newH); (focus assumption); walk_at "fl.dqa"))
local macro_rules | `(tactic| walk_at "fl.dqa") => `(tactic| ((with_reducible apply DqA.cons); (focus walk_at "fl.dq"); walk_at "fl.dqa"))
local macro_rules | `(tactic| walk_at "fl.dqa") => `(tactic| exact DqA.nil)
local macro_rules | `(tactic| walk_at "fl.dqa") => `(tactic| assumption)
local macro_rules | `(tactic| walk_at "fl.al") => `(tactic| ((with_reducible apply Al.frd); (focus assumption); (focus assumption); walk_at "fl.al"))
local macro_rules | `(tactic| walk_at "fl.al") => `(tactic| ((with_reducible apply Al.ond); (focus assumption); (focus assumption); walk_at "fl.al"))
local macro_rules | `(tactic| walk_at "fl.al") => `(tactic| ((with_reducible apply Al.sm); (focus assumption); walk_at "fl.al"))
local macro_rules | `(tactic| walk_at "fl.al") => `(tactic| ((with_reducible apply Al.newH); (focus assumption); walk_at "fl.al"))
local macro_rules | `(tactic| walk_at "fl.al") => `(tactic| exact Al.nil)
local macro_rules | `(tactic| walk_at "fl.al") => `(tactic| assumption)
local macro_rules | `(tactic| walk_at "fl.sm") => `(tactic| ((with_reducible apply Fl.Same.sm); (focus assumption); walk_at "fl.sm"))
local macro_rules | `(tactic| walk_at "fl.sm") => `(tactic| ((with_reducible apply Fl.Same.newT); (focus assumption); walk_at "fl.sm"))
local macro_rules | `(tactic| walk_at "fl.sm") => `(tactic| exact L2.Same.refl _)
local macro_rules | `(tactic| walk_at "fl.sm") => `(tactic| assumption)
local macro_rules | `(tactic| walk_at "fl.dk") => `(tactic| ((with_reducible apply Dk.sm); (focus assumption); walk_at "fl.dk"))
local macro_rules | `(tactic| walk_at "fl.dk") => `(tactic| ((with_reducible apply Dk.newH); (focus assumption); walk_at "fl.dk"))
local macro_rules | `(tactic| walk_at "fl.dk") => `(tactic| assumption)
local macro_rules | `(tactic| walk_at "fl.cz") => `(tactic| ((try simp only [List.length_drop, List.length_take, List.length_append, List.length_cons, List.length_nil, List.length_map, List.length_reverse, List.length_dropLast]); omega))
-- readings with plain lookups first, then the older steps
local macro_rules | `(tactic| walk_at "fl.t") => `(tactic| walk_at "fl.s")
local macro_rules | `(tactic| walk_at "fl.t") => `(tactic| ((with_reducible apply g_ez); (focus walk_at "fl.lk"); (focus walk_at "fl.lk")))
local macro_rules | `(tactic| walk_at "fl.t") => `(tactic| ((with_reducible apply g_el); (focus walk_at "fl.lk")))
local macro_rules | `(tactic| walk_at "fl.t") => `(tactic| ((with_reducible apply g_e2); (focus (refine ⟨?_, ?_, ?_, ?_⟩ <;> walk_at "fl.cz"))))
local macro_rules | `(tactic| walk_at "fl.t") => `(tactic| ((with_reducible apply g_e1); (focus walk_at "fl.cz"); (focus walk_at "fl.cz")))
local macro_rules | `(tactic| walk_at "fl.t") => `(tactic| (with_reducible refine g_zip ?_))
local macro_rules | `(tactic| walk_at "fl.t") => `(tactic| (with_reducible refine g_il ?_))
local macro_rules | `(tactic| walk_at "fl.t") => `(tactic| (with_reducible refine g_rng2 ?_))
local macro_rules | `(tactic| walk_at "fl.t") => `(tactic| (with_reducible refine g_rng1 ?_))
local macro_rules | `(tactic| walk_at "fl.t") => `(tactic| (with_reducible refine g_for ?_))
local macro_rules | `(tactic| walk_at "fl.t") => `(tactic| (with_reducible refine g_lc ?_))
local macro_rules | `(tactic| walk_at "fl.t") => `(tactic| ((with_reducible apply g_ext); (focus walk_at "fl.raw"); (focus walk_at "fl.raw"); (focus walk_at "fl.cz")))
local macro_rules | `(tactic| walk_at "fl.t") => `(tactic| ((with_reducible apply g_app); (focus walk_at "fl.raw"); (focus walk_at "fl.cz")))
local macro_rules | `(tactic| walk_at "fl.t") => `(tactic| ((with_reducible apply g_tyL); (focus walk_at "fl.lk")))
local macro_rules | `(tactic| walk_at "fl.t") => `(tactic| (with_reducible refine g_bm ?_))
local macro_rules | `(tactic| walk_at "fl.t") => `(tactic| (with_reducible refine g_gnil ?_))
local macro_rules | `(tactic| walk_at "fl.t") => `(tactic| (with_reducible refine g_gcons ?_))
local macro_rules | `(tactic| walk_at "fl.t") => `(tactic| ((with_reducible apply g_gtup); (focus walk_at "fl.lk"); (focus rfl)))
local macro_rules | `(tactic| walk_at "fl.t") => `(tactic| (with_reducible refine g_yes ?_))
local macro_rules | `(tactic| walk_at "fl.t") => `(tactic| ((with_reducible apply g_tru1); (focus walk_at "fl.lk")))
local macro_rules | `(tactic| walk_at "fl.t") => `(tactic| ((with_reducible apply g_tru0); (focus walk_at "fl.lk")))
local macro_rules | `(tactic| walk_at "fl.t") => `(tactic| (with_reducible refine g_tru ?_))
local macro_rules | `(tactic| walk_at "fl.t") => `(tactic| (with_reducible refine g_nn ?_))
local macro_rules | `(tactic| walk_at "fl.t") => `(tactic| ((with_reducible apply g_sum); (focus walk_at "fl.lk")))
local macro_rules | `(tactic| walk_at "fl.t") => `(tactic| ((with_reducible apply g_maxL); (focus walk_at "fl.lk"); (focus assumption)))
local macro_rules | `(tactic| walk_at "fl.t") => `(tactic| ((with_reducible apply g_minL); (focus walk_at "fl.lk"); (focus assumption)))
local macro_rules | `(tactic| walk_at "fl.t") => `(tactic| (with_reducible refine g_name ?_))
local macro_rules | `(tactic| walk_at "fl.t") => `(tactic| ((with_reducible refine g_sz ?_ ?_); (focus walk_at "fl.cz")))
local macro_rules | `(tactic| walk_at "fl.t") => `(tactic| ((with_reducible apply dk_app); (focus assumption); intro _ _ _ _ _))
local macro_rules | `(tactic| walk_at "fl.t") => `(tactic| ((with_reducible apply dr_app); (focus walk_at "fl.dk"); (focus first | (with_reducible assumption) | omega | walk_at "fl.side"); (focus first | (with_reducible assumption) | omega | walk_at "fl.side"); intro _ _ _ _ _ _))
local macro_rules | `(tactic| walk_at "fl.t") => `(tactic| ((with_reducible apply g_cat); (focus walk_at "fl.raw"); (focus walk_at "fl.raw"); (focus walk_at "fl.cz"); intro _ _))
local macro_rules | `(tactic| walk_at "fl.t") => `(tactic| ((with_reducible apply g_sl2); (focus walk_at "fl.lk"); intro _ _))
local macro_rules | `(tactic| walk_at "fl.t") => `(tactic| ((with_reducible apply g_slTo); (focus walk_at "fl.lk"); intro _ _))
local macro_rules | `(tactic| walk_at "fl.t") => `(tactic| ((with_reducible apply g_slF); (focus walk_at "fl.lk"); intro _ _))
local macro_rules | `(tactic| walk_at "fl.t") => `(tactic| ((with_reducible apply g_slE); (focus walk_at "fl.lk"); intro _ _))
local macro_rules | `(tactic| walk_at "fl.t") => `(tactic| ((with_reducible apply g_slB); (focus walk_at "fl.lk"); intro _ _))
local macro_rules | `(tactic| walk_at "fl.t") => `(tactic| ((with_reducible apply g_slT1); (focus walk_at "fl.lk"); intro _ _))
local macro_rules | `(tactic| walk_at "fl.t") => `(tactic| ((with_reducible apply g_slF1); (focus walk_at "fl.lk"); intro _ _))
local macro_rules | `(tactic| walk_at "fl.t") => `(tactic| (with_reducible refine g_ei ?_))
local macro_rules | `(tactic| walk_at "fl.t") => `(tactic| (with_reducible refine g_nop ?_))
local macro_rules | `(tactic| walk_at "fl.t") => `(tactic| (with_reducible refine g_part ?_))
local macro_rules | `(tactic| walk_at "fl.t") => `(tactic| (with_reducible refine g_sl ?_))
local macro_rules | `(tactic| walk_at "fl.t") => `(tactic| ((with_reducible apply g_listL); (focus walk_at "fl.lk"); intro _ _))
local macro_rules | `(tactic| walk_at "fl.t") => `(tactic| ((with_reducible apply g_lenT); (focus walk_at "fl.lk")))
local macro_rules | `(tactic| walk_at "fl.t") => `(tactic| ((with_reducible apply g_lenL); (focus walk_at "fl.lk")))
local macro_rules | `(tactic| walk_at "fl.t") => `(tactic| ((with_reducible apply g_ixT); (focus walk_at "fl.lk"); (focus first | assumption | rfl)))
local macro_rules | `(tactic| walk_at "fl.t") => `(tactic| ((with_reducible apply g_ixL); (focus walk_at "fl.lk"); (focus first | assumption | exact at0 | rfl)))
local macro_rules | `(tactic| walk_at "fl.w") => `(tactic| repeat walk_at "fl.t")
local macro_rules | `(tactic| walk_at "fl.wr") => `(tactic| ((repeat walk_at "fl.t"); try (first
  | (refine g_ite (fun _ => ?_) (fun _ => ?_); all_goals walk_at "fl.wr")
  | (refine g_iteN (fun _ => ?_) (fun _ => ?_); all_goals walk_at "fl.wr"))))

local macro_rules | `(tactic| walk_at "fl.t") => `(tactic| (with_reducible refine g_eqS ?_))
local macro_rules | `(tactic| walk_at "fl.t") => `(tactic| ((with_reducible apply g_lrev2); (focus walk_at "fl.lk"); intro _ _))
local macro_rules | `(tactic| walk_at "fl.t") => `(tactic| (with_reducible refine g_lrev ?_))
local macro_rules | `(tactic| walk_at "fl.t") => `(tactic| ((with_reducible apply g_slR0); (focus walk_at "fl.lk"); intro _ _))
local macro_rules | `(tactic| walk_at "fl.w") => `(tactic| repeat walk_at "fl.t")

local macro_rules | `(tactic| walk_at "fl.t") => `(tactic| (with_reducible refine g_asg2 ?_))
local macro_rules | `(tactic| walk_at "fl.t") => `(tactic| ((with_reducible apply g_allL); (focus walk_at "fl.lk")))
local macro_rules | `(tactic| walk_at "fl.t") => `(tactic| ((with_reducible apply g_enE); (focus walk_at "fl.lk")))
local macro_rules | `(tactic| walk_at "fl.t") => `(tactic| (with_reducible refine g_enum ?_))
local macro_rules | `(tactic| walk_at "fl.t") => `(tactic| (with_reducible refine g_truN ?_))
local macro_rules | `(tactic| walk_at "fl.t") => `(tactic| (with_reducible refine g_orT ?_))
local macro_rules | `(tactic| walk_at "fl.t") => `(tactic| (with_reducible refine g_chain ?_))
local macro_rules | `(tactic| walk_at "fl.t") => `(tactic| ((with_reducible apply g_sfE); (focus first | exact InitAt.hx (by assumption) | walk_at "fl.raw"); (focus assumption); (focus ((apply na_of); (focus assumption); rfl)); (focus (simp only [List.length_append, List.length_cons, List.length_nil]; omega))))
local macro_rules | `(tactic| walk_at "fl.t") => `(tactic| ((with_reducible apply g_fldE); (focus walk_at "fl.raw"); (focus assumption); (focus ((apply na_of); (focus assumption); rfl)); (focus rfl)))
local macro_rules | `(tactic| walk_at "fl.t") => `(tactic| (with_reducible refine g_make ?_))
local macro_rules | `(tactic| walk_at "fl.t") => `(tactic| (with_reducible refine g_sf ?_))
local macro_rules | `(tactic| walk_at "fl.t") => `(tactic| (with_reducible refine g_fld ?_))
local macro_rules | `(tactic| walk_at "fl.w") => `(tactic| repeat walk_at "fl.t")

def topS (i : Nat) : Stmt := PySem.Challenge.pw_fleuron_k22_lookups_one_after_another.main.body.getD i (.Pass ⟨0, 0, 0, 0⟩)
abbrev s_match : Stmt := topS 8
abbrev N_match : List Str := ["font", "lookup", "run", "at", "forms", "rule"]
abbrev ps_match : List Str := ["font", "lookup", "run", "at", "forms"]
theorem sc_match : FnScope N_match ps_match (defScope s_match) := ⟨rfl, rfl, rfl, by decide +kernel, rfl, by decide +kernel, by decide +kernel⟩
theorem bd_match_4 (T : Addr) (kV doc pm : Value) (an : Option Addr) (cdv ct : Value) (us its : List Value) (h : us.length = 4) (h2 : its.length = 1) : ∃ k, bindArgs (PySem.W.fnOf "match" "match" (defArgs s_match) (defBody s_match) (defScope s_match) (.ref T) kV doc pm an cdv ct) ⟨us, []⟩ = seqItems? (.ref T) >>= k ∧ k (some its.toArray) = pure (ps_match.zip (us ++ its.drop 0)) := match us, h, its, h2 with | [_, _, _, _], _, [_], _ => ⟨_, rfl, rfl⟩
theorem bd_match_5 (T : Addr) (kV doc pm : Value) (an : Option Addr) (cdv ct : Value) (us its : List Value) (h : us.length = 5) (h2 : its.length = 1) : ∃ k, bindArgs (PySem.W.fnOf "match" "match" (defArgs s_match) (defBody s_match) (defScope s_match) (.ref T) kV doc pm an cdv ct) ⟨us, []⟩ = seqItems? (.ref T) >>= k ∧ k (some its.toArray) = pure (ps_match.zip (us ++ its.drop 1)) := match us, h, its, h2 with | [_, _, _, _, _], _, [_], _ => ⟨_, rfl, rfl⟩
abbrev s_law_mix : Stmt := topS 89
abbrev N_law_mix : List Str := ["number", "k"]
abbrev ps_law_mix : List Str := ["number", "k"]
theorem sc_law_mix : FnScope N_law_mix ps_law_mix (defScope s_law_mix) := ⟨rfl, rfl, rfl, by decide +kernel, rfl, by decide +kernel, by decide +kernel⟩
theorem bd_law_mix (kV doc pm : Value) (an : Option Addr) (cdv ct : Value) (us : List Value) (h : us.length = ps_law_mix.length) : bindArgs (PySem.W.fnOf "_law_mix" "_law_mix" (defArgs s_law_mix) (defBody s_law_mix) (defScope s_law_mix) .none kV doc pm an cdv ct) ⟨us, []⟩ = pure (ps_law_mix.zip us) := match us, h with | [_, _], _ => rfl
abbrev s_law_numbers : Stmt := topS 90
abbrev N_law_numbers : List Str := ["script", "count", "row", "base", "cell", "rest", "k"]
abbrev ps_law_numbers : List Str := ["script", "count"]
theorem sc_law_numbers : FnScope N_law_numbers ps_law_numbers (defScope s_law_numbers) := ⟨rfl, rfl, rfl, by decide +kernel, rfl, by decide +kernel, by decide +kernel⟩
theorem bd_law_numbers (kV doc pm : Value) (an : Option Addr) (cdv ct : Value) (us : List Value) (h : us.length = ps_law_numbers.length) : bindArgs (PySem.W.fnOf "_law_numbers" "_law_numbers" (defArgs s_law_numbers) (defBody s_law_numbers) (defScope s_law_numbers) .none kV doc pm an cdv ct) ⟨us, []⟩ = pure (ps_law_numbers.zip us) := match us, h with | [_, _], _ => rfl
abbrev s_law_take : Stmt := topS 91
abbrev N_law_take : List Str := ["row", "bound"]
abbrev ps_law_take : List Str := ["row", "bound"]
theorem sc_law_take : FnScope N_law_take ps_law_take (defScope s_law_take) := ⟨rfl, rfl, rfl, by decide +kernel, rfl, by decide +kernel, by decide +kernel⟩
theorem bd_law_take (kV doc pm : Value) (an : Option Addr) (cdv ct : Value) (us : List Value) (h : us.length = ps_law_take.length) : bindArgs (PySem.W.fnOf "_law_take" "_law_take" (defArgs s_law_take) (defBody s_law_take) (defScope s_law_take) .none kV doc pm an cdv ct) ⟨us, []⟩ = pure (ps_law_take.zip us) := match us, h with | [_, _], _ => rfl
abbrev s_law_set : Stmt := topS 94
abbrev N_law_set : List Str := ["row", "count", "glyphs", "k"]
abbrev ps_law_set : List Str := ["row", "count"]
theorem sc_law_set : FnScope N_law_set ps_law_set (defScope s_law_set) := ⟨rfl, rfl, rfl, by decide +kernel, rfl, by decide +kernel, by decide +kernel⟩
theorem bd_law_set (kV doc pm : Value) (an : Option Addr) (cdv ct : Value) (us : List Value) (h : us.length = ps_law_set.length) : bindArgs (PySem.W.fnOf "_law_set" "_law_set" (defArgs s_law_set) (defBody s_law_set) (defScope s_law_set) .none kV doc pm an cdv ct) ⟨us, []⟩ = pure (ps_law_set.zip us) := match us, h with | [_, _], _ => rfl
abbrev s_law_sets : Stmt := topS 95
abbrev N_law_sets : List Str := ["row", "count", "least", "most", "k"]
abbrev ps_law_sets : List Str := ["row", "count", "least", "most"]
theorem sc_law_sets : FnScope N_law_sets ps_law_sets (defScope s_law_sets) := ⟨rfl, rfl, rfl, by decide +kernel, rfl, by decide +kernel, by decide +kernel⟩
theorem bd_law_sets (kV doc pm : Value) (an : Option Addr) (cdv ct : Value) (us : List Value) (h : us.length = ps_law_sets.length) : bindArgs (PySem.W.fnOf "_law_sets" "_law_sets" (defArgs s_law_sets) (defBody s_law_sets) (defScope s_law_sets) .none kV doc pm an cdv ct) ⟨us, []⟩ = pure (ps_law_sets.zip us) := match us, h with | [_, _, _, _], _ => rfl
abbrev s_law_rule : Stmt := topS 96
abbrev N_law_rule : List Str := ["row", "kind", "count", "called_v", "inside", "back", "ahead", "out", "calls", "index", "glyph", "k"]
abbrev ps_law_rule : List Str := ["row", "kind", "count", "called_v"]
theorem sc_law_rule : FnScope N_law_rule ps_law_rule (defScope s_law_rule) := ⟨rfl, rfl, rfl, by decide +kernel, rfl, by decide +kernel, by decide +kernel⟩
theorem bd_law_rule (kV doc pm : Value) (an : Option Addr) (cdv ct : Value) (us : List Value) (h : us.length = ps_law_rule.length) : bindArgs (PySem.W.fnOf "_law_rule" "_law_rule" (defArgs s_law_rule) (defBody s_law_rule) (defScope s_law_rule) .none kV doc pm an cdv ct) ⟨us, []⟩ = pure (ps_law_rule.zip us) := match us, h with | [_, _, _, _], _ => rfl
abbrev s_law_lookups : Stmt := topS 97
abbrev N_law_lookups : List Str := ["row", "count", "lookups", "number", "kind", "called_v", "rules", "k"]
abbrev ps_law_lookups : List Str := ["row", "count"]
theorem sc_law_lookups : FnScope N_law_lookups ps_law_lookups (defScope s_law_lookups) := ⟨rfl, rfl, rfl, by decide +kernel, rfl, by decide +kernel, by decide +kernel⟩
theorem bd_law_lookups (kV doc pm : Value) (an : Option Addr) (cdv ct : Value) (us : List Value) (h : us.length = ps_law_lookups.length) : bindArgs (PySem.W.fnOf "_law_lookups" "_law_lookups" (defArgs s_law_lookups) (defBody s_law_lookups) (defScope s_law_lookups) .none kV doc pm an cdv ct) ⟨us, []⟩ = pure (ps_law_lookups.zip us) := match us, h with | [_, _], _ => rfl
abbrev s_law_run : Stmt := topS 99
abbrev N_law_run : List Str := ["row", "count", "advances", "run", "cluster", "k", "glyph"]
abbrev ps_law_run : List Str := ["row", "count", "advances"]
theorem sc_law_run : FnScope N_law_run ps_law_run (defScope s_law_run) := ⟨rfl, rfl, rfl, by decide +kernel, rfl, by decide +kernel, by decide +kernel⟩
theorem bd_law_run (kV doc pm : Value) (an : Option Addr) (cdv ct : Value) (us : List Value) (h : us.length = ps_law_run.length) : bindArgs (PySem.W.fnOf "_law_run" "_law_run" (defArgs s_law_run) (defBody s_law_run) (defScope s_law_run) .none kV doc pm an cdv ct) ⟨us, []⟩ = pure (ps_law_run.zip us) := match us, h with | [_, _, _], _ => rfl
abbrev s_law_world : Stmt := topS 100
abbrev N_law_world : List Str := ["row", "count", "marks", "advances", "lookups", "k"]
abbrev ps_law_world : List Str := ["row"]
theorem sc_law_world : FnScope N_law_world ps_law_world (defScope s_law_world) := ⟨rfl, rfl, rfl, by decide +kernel, rfl, by decide +kernel, by decide +kernel⟩
theorem bd_law_world (kV doc pm : Value) (an : Option Addr) (cdv ct : Value) (us : List Value) (h : us.length = ps_law_world.length) : bindArgs (PySem.W.fnOf "_law_world" "_law_world" (defArgs s_law_world) (defBody s_law_world) (defScope s_law_world) .none kV doc pm an cdv ct) ⟨us, []⟩ = pure (ps_law_world.zip us) := match us, h with | [_], _ => rfl
abbrev s_law : Stmt := topS 103
abbrev N_law : List Str := ["script", "row", "world", "count", "marks", "advances", "lookups", "font", "run", "kind", "doubled", "twice", "lookup", "actual", "item", "bare", "rules", "ignore", "at", "old"]
abbrev ps_law : List Str := ["script"]
theorem sc_law : FnScope N_law ps_law (defScope s_law) := ⟨rfl, rfl, rfl, by decide +kernel, rfl, by decide +kernel, by decide +kernel⟩
theorem bd_law (kV doc pm : Value) (an : Option Addr) (cdv ct : Value) (us : List Value) (h : us.length = ps_law.length) : bindArgs (PySem.W.fnOf "law" "law" (defArgs s_law) (defBody s_law) (defScope s_law) .none kV doc pm an cdv ct) ⟨us, []⟩ = pure (ps_law.zip us) := match us, h with | [_], _ => rfl
abbrev s_tuples_of : Stmt := topS 38
abbrev N_tuples_of : List Str := ["rows", "row"]
abbrev ps_tuples_of : List Str := ["rows"]
theorem sc_tuples_of : FnScope N_tuples_of ps_tuples_of (defScope s_tuples_of) := ⟨rfl, rfl, rfl, by decide +kernel, rfl, by decide +kernel, by decide +kernel⟩
theorem bd_tuples_of (kV doc pm : Value) (an : Option Addr) (cdv ct : Value) (us : List Value) (h : us.length = ps_tuples_of.length) : bindArgs (PySem.W.fnOf "tuples_of" "tuples_of" (defArgs s_tuples_of) (defBody s_tuples_of) (defScope s_tuples_of) .none kV doc pm an cdv ct) ⟨us, []⟩ = pure (ps_tuples_of.zip us) := match us, h with | [_], _ => rfl
abbrev s_Glyph : Stmt := inClass (topS 81) 0
abbrev N_Glyph : List Str := ["self", "advance", "outline", "parts", "anchors", "mark", "deltas", "hint", "contour"]
abbrev ps_Glyph : List Str := ["self", "advance", "outline", "parts", "anchors", "mark", "deltas", "hint"]
theorem sc_Glyph : FnScope N_Glyph ps_Glyph (defScope s_Glyph) := ⟨rfl, rfl, rfl, by decide +kernel, rfl, by decide +kernel, by decide +kernel⟩
abbrev s_Rule : Stmt := inClass (topS 82) 0
abbrev N_Rule : List Str := ["self", "inside", "back", "ahead", "out", "calls", "extra", "chosen"]
abbrev ps_Rule : List Str := ["self", "inside", "back", "ahead", "out", "calls", "extra"]
theorem sc_Rule : FnScope N_Rule ps_Rule (defScope s_Rule) := ⟨rfl, rfl, rfl, by decide +kernel, rfl, by decide +kernel, by decide +kernel⟩
abbrev s_copied_rule : Stmt := topS 86
abbrev N_copied_rule : List Str := ["rule"]
abbrev ps_copied_rule : List Str := ["rule"]
theorem sc_copied_rule : FnScope N_copied_rule ps_copied_rule (defScope s_copied_rule) := ⟨rfl, rfl, rfl, by decide +kernel, rfl, by decide +kernel, by decide +kernel⟩
theorem bd_copied_rule (kV doc pm : Value) (an : Option Addr) (cdv ct : Value) (us : List Value) (h : us.length = ps_copied_rule.length) : bindArgs (PySem.W.fnOf "copied_rule" "copied_rule" (defArgs s_copied_rule) (defBody s_copied_rule) (defScope s_copied_rule) .none kV doc pm an cdv ct) ⟨us, []⟩ = pure (ps_copied_rule.zip us) := match us, h with | [_], _ => rfl
abbrev s_Lookup : Stmt := inClass (topS 83) 0
abbrev N_Lookup : List Str := ["self", "kind", "rules", "ignore", "rule"]
abbrev ps_Lookup : List Str := ["self", "kind", "rules", "ignore"]
theorem sc_Lookup : FnScope N_Lookup ps_Lookup (defScope s_Lookup) := ⟨rfl, rfl, rfl, by decide +kernel, rfl, by decide +kernel, by decide +kernel⟩
abbrev s_copied_glyph : Stmt := topS 85
abbrev N_copied_glyph : List Str := ["glyph"]
abbrev ps_copied_glyph : List Str := ["glyph"]
theorem sc_copied_glyph : FnScope N_copied_glyph ps_copied_glyph (defScope s_copied_glyph) := ⟨rfl, rfl, rfl, by decide +kernel, rfl, by decide +kernel, by decide +kernel⟩
theorem bd_copied_glyph (kV doc pm : Value) (an : Option Addr) (cdv ct : Value) (us : List Value) (h : us.length = ps_copied_glyph.length) : bindArgs (PySem.W.fnOf "copied_glyph" "copied_glyph" (defArgs s_copied_glyph) (defBody s_copied_glyph) (defScope s_copied_glyph) .none kV doc pm an cdv ct) ⟨us, []⟩ = pure (ps_copied_glyph.zip us) := match us, h with | [_], _ => rfl
abbrev s_copied_lookup : Stmt := topS 87
abbrev N_copied_lookup : List Str := ["lookup"]
abbrev ps_copied_lookup : List Str := ["lookup"]
theorem sc_copied_lookup : FnScope N_copied_lookup ps_copied_lookup (defScope s_copied_lookup) := ⟨rfl, rfl, rfl, by decide +kernel, rfl, by decide +kernel, by decide +kernel⟩
theorem bd_copied_lookup (kV doc pm : Value) (an : Option Addr) (cdv ct : Value) (us : List Value) (h : us.length = ps_copied_lookup.length) : bindArgs (PySem.W.fnOf "copied_lookup" "copied_lookup" (defArgs s_copied_lookup) (defBody s_copied_lookup) (defScope s_copied_lookup) .none kV doc pm an cdv ct) ⟨us, []⟩ = pure (ps_copied_lookup.zip us) := match us, h with | [_], _ => rfl
abbrev s_law_font : Stmt := topS 98
abbrev N_law_font : List Str := ["count", "marks", "advances", "lookups", "made", "kind", "rules", "ignore", "rows", "glyphs", "k", "one"]
abbrev ps_law_font : List Str := ["count", "marks", "advances", "lookups"]
theorem sc_law_font : FnScope N_law_font ps_law_font (defScope s_law_font) := ⟨rfl, rfl, rfl, by decide +kernel, rfl, by decide +kernel, by decide +kernel⟩
theorem bd_law_font (kV doc pm : Value) (an : Option Addr) (cdv ct : Value) (us : List Value) (h : us.length = ps_law_font.length) : bindArgs (PySem.W.fnOf "_law_font" "_law_font" (defArgs s_law_font) (defBody s_law_font) (defScope s_law_font) .none kV doc pm an cdv ct) ⟨us, []⟩ = pure (ps_law_font.zip us) := match us, h with | [_, _, _, _], _ => rfl
abbrev s_sees : Stmt := topS 7
abbrev N_sees : List Str := ["font", "lookup", "glyph"]
abbrev ps_sees : List Str := ["font", "lookup", "glyph"]
theorem sc_sees : FnScope N_sees ps_sees (defScope s_sees) := ⟨rfl, rfl, rfl, by decide +kernel, rfl, by decide +kernel, by decide +kernel⟩
theorem bd_sees (kV doc pm : Value) (an : Option Addr) (cdv ct : Value) (us : List Value) (h : us.length = ps_sees.length) : bindArgs (PySem.W.fnOf "sees" "sees" (defArgs s_sees) (defBody s_sees) (defScope s_sees) .none kV doc pm an cdv ct) ⟨us, []⟩ = pure (ps_sees.zip us) := match us, h with | [_, _, _], _ => rfl
abbrev s_seen_items : Stmt := topS 10
abbrev N_seen_items : List Str := ["font", "lookup", "run", "at", "step", "most", "found"]
abbrev ps_seen_items : List Str := ["font", "lookup", "run", "at", "step", "most"]
theorem sc_seen_items : FnScope N_seen_items ps_seen_items (defScope s_seen_items) := ⟨rfl, rfl, rfl, by decide +kernel, rfl, by decide +kernel, by decide +kernel⟩
theorem bd_seen_items (kV doc pm : Value) (an : Option Addr) (cdv ct : Value) (us : List Value) (h : us.length = ps_seen_items.length) : bindArgs (PySem.W.fnOf "seen_items" "seen_items" (defArgs s_seen_items) (defBody s_seen_items) (defScope s_seen_items) .none kV doc pm an cdv ct) ⟨us, []⟩ = pure (ps_seen_items.zip us) := match us, h with | [_, _, _, _, _, _], _ => rfl
abbrev s_are_in_sets : Stmt := topS 11
abbrev N_are_in_sets : List Str := ["run", "indexes", "sets", "index", "chosen"]
abbrev ps_are_in_sets : List Str := ["run", "indexes", "sets"]
theorem sc_are_in_sets : FnScope N_are_in_sets ps_are_in_sets (defScope s_are_in_sets) := ⟨rfl, rfl, rfl, by decide +kernel, rfl, by decide +kernel, by decide +kernel⟩
theorem bd_are_in_sets (kV doc pm : Value) (an : Option Addr) (cdv ct : Value) (us : List Value) (h : us.length = ps_are_in_sets.length) : bindArgs (PySem.W.fnOf "are_in_sets" "are_in_sets" (defArgs s_are_in_sets) (defBody s_are_in_sets) (defScope s_are_in_sets) .none kV doc pm an cdv ct) ⟨us, []⟩ = pure (ps_are_in_sets.zip us) := match us, h with | [_, _, _], _ => rfl
abbrev s_matched_items : Stmt := topS 9
abbrev N_matched_items : List Str := ["font", "lookup", "run", "at", "rule", "tried", "onward", "backward"]
abbrev ps_matched_items : List Str := ["font", "lookup", "run", "at", "rule"]
theorem sc_matched_items : FnScope N_matched_items ps_matched_items (defScope s_matched_items) := ⟨rfl, rfl, rfl, by decide +kernel, rfl, by decide +kernel, by decide +kernel⟩
theorem bd_matched_items (kV doc pm : Value) (an : Option Addr) (cdv ct : Value) (us : List Value) (h : us.length = ps_matched_items.length) : bindArgs (PySem.W.fnOf "matched_items" "matched_items" (defArgs s_matched_items) (defBody s_matched_items) (defScope s_matched_items) .none kV doc pm an cdv ct) ⟨us, []⟩ = pure (ps_matched_items.zip us) := match us, h with | [_, _, _, _, _], _ => rfl
abbrev s_is_set : Stmt := topS 49
abbrev N_is_set : List Str := ["font", "chosen"]
abbrev ps_is_set : List Str := ["font", "chosen"]
theorem sc_is_set : FnScope N_is_set ps_is_set (defScope s_is_set) := ⟨rfl, rfl, rfl, by decide +kernel, rfl, by decide +kernel, by decide +kernel⟩
theorem bd_is_set (kV doc pm : Value) (an : Option Addr) (cdv ct : Value) (us : List Value) (h : us.length = ps_is_set.length) : bindArgs (PySem.W.fnOf "is_set" "is_set" (defArgs s_is_set) (defBody s_is_set) (defScope s_is_set) .none kV doc pm an cdv ct) ⟨us, []⟩ = pure (ps_is_set.zip us) := match us, h with | [_, _], _ => rfl
abbrev s_sets_reason : Stmt := topS 48
abbrev N_sets_reason : List Str := ["font", "kind", "rule", "least", "most", "chosen"]
abbrev ps_sets_reason : List Str := ["font", "kind", "rule"]
theorem sc_sets_reason : FnScope N_sets_reason ps_sets_reason (defScope s_sets_reason) := ⟨rfl, rfl, rfl, by decide +kernel, rfl, by decide +kernel, by decide +kernel⟩
theorem bd_sets_reason (kV doc pm : Value) (an : Option Addr) (cdv ct : Value) (us : List Value) (h : us.length = ps_sets_reason.length) : bindArgs (PySem.W.fnOf "sets_reason" "sets_reason" (defArgs s_sets_reason) (defBody s_sets_reason) (defScope s_sets_reason) .none kV doc pm an cdv ct) ⟨us, []⟩ = pure (ps_sets_reason.zip us) := match us, h with | [_, _, _], _ => rfl
abbrev s_out_reason : Stmt := topS 50
abbrev N_out_reason : List Str := ["font", "kind", "rule", "many", "glyph"]
abbrev ps_out_reason : List Str := ["font", "kind", "rule"]
theorem sc_out_reason : FnScope N_out_reason ps_out_reason (defScope s_out_reason) := ⟨rfl, rfl, rfl, by decide +kernel, rfl, by decide +kernel, by decide +kernel⟩
theorem bd_out_reason (kV doc pm : Value) (an : Option Addr) (cdv ct : Value) (us : List Value) (h : us.length = ps_out_reason.length) : bindArgs (PySem.W.fnOf "out_reason" "out_reason" (defArgs s_out_reason) (defBody s_out_reason) (defScope s_out_reason) .none kV doc pm an cdv ct) ⟨us, []⟩ = pure (ps_out_reason.zip us) := match us, h with | [_, _, _], _ => rfl
abbrev s_calls_reason : Stmt := topS 51
abbrev N_calls_reason : List Str := ["font", "kind", "rule", "last", "index", "lookup"]
abbrev ps_calls_reason : List Str := ["font", "kind", "rule"]
theorem sc_calls_reason : FnScope N_calls_reason ps_calls_reason (defScope s_calls_reason) := ⟨rfl, rfl, rfl, by decide +kernel, rfl, by decide +kernel, by decide +kernel⟩
theorem bd_calls_reason (kV doc pm : Value) (an : Option Addr) (cdv ct : Value) (us : List Value) (h : us.length = ps_calls_reason.length) : bindArgs (PySem.W.fnOf "calls_reason" "calls_reason" (defArgs s_calls_reason) (defBody s_calls_reason) (defScope s_calls_reason) .none kV doc pm an cdv ct) ⟨us, []⟩ = pure (ps_calls_reason.zip us) := match us, h with | [_, _, _], _ => rfl
abbrev s_extra_reason : Stmt := topS 52
abbrev N_extra_reason : List Str := ["kind", "rule"]
abbrev ps_extra_reason : List Str := ["kind", "rule"]
theorem sc_extra_reason : FnScope N_extra_reason ps_extra_reason (defScope s_extra_reason) := ⟨rfl, rfl, rfl, by decide +kernel, rfl, by decide +kernel, by decide +kernel⟩
theorem bd_extra_reason (kV doc pm : Value) (an : Option Addr) (cdv ct : Value) (us : List Value) (h : us.length = ps_extra_reason.length) : bindArgs (PySem.W.fnOf "extra_reason" "extra_reason" (defArgs s_extra_reason) (defBody s_extra_reason) (defScope s_extra_reason) .none kV doc pm an cdv ct) ⟨us, []⟩ = pure (ps_extra_reason.zip us) := match us, h with | [_, _], _ => rfl
abbrev s_lookup_reason : Stmt := topS 47
abbrev N_lookup_reason : List Str := ["font", "lookup", "rule", "reason"]
abbrev ps_lookup_reason : List Str := ["font", "lookup"]
theorem sc_lookup_reason : FnScope N_lookup_reason ps_lookup_reason (defScope s_lookup_reason) := ⟨rfl, rfl, rfl, by decide +kernel, rfl, by decide +kernel, by decide +kernel⟩
theorem bd_lookup_reason (kV doc pm : Value) (an : Option Addr) (cdv ct : Value) (us : List Value) (h : us.length = ps_lookup_reason.length) : bindArgs (PySem.W.fnOf "lookup_reason" "lookup_reason" (defArgs s_lookup_reason) (defBody s_lookup_reason) (defScope s_lookup_reason) .none kV doc pm an cdv ct) ⟨us, []⟩ = pure (ps_lookup_reason.zip us) := match us, h with | [_, _], _ => rfl
abbrev s_first_lookup_fault : Stmt := topS 64
abbrev N_first_lookup_fault : List Str := ["font", "number", "lookup", "reason"]
abbrev ps_first_lookup_fault : List Str := ["font"]
theorem sc_first_lookup_fault : FnScope N_first_lookup_fault ps_first_lookup_fault (defScope s_first_lookup_fault) := ⟨rfl, rfl, rfl, by decide +kernel, rfl, by decide +kernel, by decide +kernel⟩
theorem bd_first_lookup_fault (kV doc pm : Value) (an : Option Addr) (cdv ct : Value) (us : List Value) (h : us.length = ps_first_lookup_fault.length) : bindArgs (PySem.W.fnOf "first_lookup_fault" "first_lookup_fault" (defArgs s_first_lookup_fault) (defBody s_first_lookup_fault) (defScope s_first_lookup_fault) .none kV doc pm an cdv ct) ⟨us, []⟩ = pure (ps_first_lookup_fault.zip us) := match us, h with | [_], _ => rfl
abbrev s_many_reason : Stmt := topS 66
abbrev N_many_reason : List Str := ["rows", "least", "most"]
abbrev ps_many_reason : List Str := ["rows", "least", "most"]
theorem sc_many_reason : FnScope N_many_reason ps_many_reason (defScope s_many_reason) := ⟨rfl, rfl, rfl, by decide +kernel, rfl, by decide +kernel, by decide +kernel⟩
theorem bd_many_reason (kV doc pm : Value) (an : Option Addr) (cdv ct : Value) (us : List Value) (h : us.length = ps_many_reason.length) : bindArgs (PySem.W.fnOf "many_reason" "many_reason" (defArgs s_many_reason) (defBody s_many_reason) (defScope s_many_reason) .none kV doc pm an cdv ct) ⟨us, []⟩ = pure (ps_many_reason.zip us) := match us, h with | [_, _, _], _ => rfl
abbrev s_unit_reason : Stmt := topS 67
abbrev N_unit_reason : List Str := ["font"]
abbrev ps_unit_reason : List Str := ["font"]
theorem sc_unit_reason : FnScope N_unit_reason ps_unit_reason (defScope s_unit_reason) := ⟨rfl, rfl, rfl, by decide +kernel, rfl, by decide +kernel, by decide +kernel⟩
theorem bd_unit_reason (kV doc pm : Value) (an : Option Addr) (cdv ct : Value) (us : List Value) (h : us.length = ps_unit_reason.length) : bindArgs (PySem.W.fnOf "unit_reason" "unit_reason" (defArgs s_unit_reason) (defBody s_unit_reason) (defScope s_unit_reason) .none kV doc pm an cdv ct) ⟨us, []⟩ = pure (ps_unit_reason.zip us) := match us, h with | [_], _ => rfl
abbrev s_placed : Stmt := topS 62
abbrev N_placed : List Str := ["place", "reason"]
abbrev ps_placed : List Str := ["place", "reason"]
theorem sc_placed : FnScope N_placed ps_placed (defScope s_placed) := ⟨rfl, rfl, rfl, by decide +kernel, rfl, by decide +kernel, by decide +kernel⟩
theorem bd_placed (kV doc pm : Value) (an : Option Addr) (cdv ct : Value) (us : List Value) (h : us.length = ps_placed.length) : bindArgs (PySem.W.fnOf "placed" "placed" (defArgs s_placed) (defBody s_placed) (defScope s_placed) .none kV doc pm an cdv ct) ⟨us, []⟩ = pure (ps_placed.zip us) := match us, h with | [_, _], _ => rfl
abbrev s_chars_reason : Stmt := topS 73
abbrev N_chars_reason : List Str := ["font", "last", "code", "glyph"]
abbrev ps_chars_reason : List Str := ["font"]
theorem sc_chars_reason : FnScope N_chars_reason ps_chars_reason (defScope s_chars_reason) := ⟨rfl, rfl, rfl, by decide +kernel, rfl, by decide +kernel, by decide +kernel⟩
theorem bd_chars_reason (kV doc pm : Value) (an : Option Addr) (cdv ct : Value) (us : List Value) (h : us.length = ps_chars_reason.length) : bindArgs (PySem.W.fnOf "chars_reason" "chars_reason" (defArgs s_chars_reason) (defBody s_chars_reason) (defScope s_chars_reason) .none kV doc pm an cdv ct) ⟨us, []⟩ = pure (ps_chars_reason.zip us) := match us, h with | [_], _ => rfl
abbrev s_axes_reason : Stmt := topS 75
abbrev N_axes_reason : List Str := ["font", "least", "normal", "greatest"]
abbrev ps_axes_reason : List Str := ["font"]
theorem sc_axes_reason : FnScope N_axes_reason ps_axes_reason (defScope s_axes_reason) := ⟨rfl, rfl, rfl, by decide +kernel, rfl, by decide +kernel, by decide +kernel⟩
theorem bd_axes_reason (kV doc pm : Value) (an : Option Addr) (cdv ct : Value) (us : List Value) (h : us.length = ps_axes_reason.length) : bindArgs (PySem.W.fnOf "axes_reason" "axes_reason" (defArgs s_axes_reason) (defBody s_axes_reason) (defScope s_axes_reason) .none kV doc pm an cdv ct) ⟨us, []⟩ = pure (ps_axes_reason.zip us) := match us, h with | [_], _ => rfl
abbrev s_regions_reason : Stmt := topS 76
abbrev N_regions_reason : List Str := ["font", "region", "tent"]
abbrev ps_regions_reason : List Str := ["font"]
theorem sc_regions_reason : FnScope N_regions_reason ps_regions_reason (defScope s_regions_reason) := ⟨rfl, rfl, rfl, by decide +kernel, rfl, by decide +kernel, by decide +kernel⟩
theorem bd_regions_reason (kV doc pm : Value) (an : Option Addr) (cdv ct : Value) (us : List Value) (h : us.length = ps_regions_reason.length) : bindArgs (PySem.W.fnOf "regions_reason" "regions_reason" (defArgs s_regions_reason) (defBody s_regions_reason) (defScope s_regions_reason) .none kV doc pm an cdv ct) ⟨us, []⟩ = pure (ps_regions_reason.zip us) := match us, h with | [_], _ => rfl
abbrev s_functions_reason : Stmt := topS 78
abbrev N_functions_reason : List Str := ["font", "function", "step"]
abbrev ps_functions_reason : List Str := ["font"]
theorem sc_functions_reason : FnScope N_functions_reason ps_functions_reason (defScope s_functions_reason) := ⟨rfl, rfl, rfl, by decide +kernel, rfl, by decide +kernel, by decide +kernel⟩
theorem bd_functions_reason (kV doc pm : Value) (an : Option Addr) (cdv ct : Value) (us : List Value) (h : us.length = ps_functions_reason.length) : bindArgs (PySem.W.fnOf "functions_reason" "functions_reason" (defArgs s_functions_reason) (defBody s_functions_reason) (defScope s_functions_reason) .none kV doc pm an cdv ct) ⟨us, []⟩ = pure (ps_functions_reason.zip us) := match us, h with | [_], _ => rfl
abbrev s_presets_reason : Stmt := topS 79
abbrev N_presets_reason : List Str := ["font", "preset"]
abbrev ps_presets_reason : List Str := ["font"]
theorem sc_presets_reason : FnScope N_presets_reason ps_presets_reason (defScope s_presets_reason) := ⟨rfl, rfl, rfl, by decide +kernel, rfl, by decide +kernel, by decide +kernel⟩
theorem bd_presets_reason (kV doc pm : Value) (an : Option Addr) (cdv ct : Value) (us : List Value) (h : us.length = ps_presets_reason.length) : bindArgs (PySem.W.fnOf "presets_reason" "presets_reason" (defArgs s_presets_reason) (defBody s_presets_reason) (defScope s_presets_reason) .none kV doc pm an cdv ct) ⟨us, []⟩ = pure (ps_presets_reason.zip us) := match us, h with | [_], _ => rfl
abbrev s_features_reason : Stmt := topS 74
abbrev N_features_reason : List Str := ["font", "name", "names", "numbers", "_"]
abbrev ps_features_reason : List Str := ["font"]
theorem sc_features_reason : FnScope N_features_reason ps_features_reason (defScope s_features_reason) := ⟨rfl, rfl, rfl, by decide +kernel, rfl, by decide +kernel, by decide +kernel⟩
theorem bd_features_reason (kV doc pm : Value) (an : Option Addr) (cdv ct : Value) (us : List Value) (h : us.length = ps_features_reason.length) : bindArgs (PySem.W.fnOf "features_reason" "features_reason" (defArgs s_features_reason) (defBody s_features_reason) (defScope s_features_reason) .none kV doc pm an cdv ct) ⟨us, []⟩ = pure (ps_features_reason.zip us) := match us, h with | [_], _ => rfl
abbrev s_is_row_of_letters : Stmt := topS 29
abbrev N_is_row_of_letters : List Str := ["word", "most", "letter"]
abbrev ps_is_row_of_letters : List Str := ["word", "most"]
theorem sc_is_row_of_letters : FnScope N_is_row_of_letters ps_is_row_of_letters (defScope s_is_row_of_letters) := ⟨rfl, rfl, rfl, by decide +kernel, rfl, by decide +kernel, by decide +kernel⟩
theorem bd_is_row_of_letters (kV doc pm : Value) (an : Option Addr) (cdv ct : Value) (us : List Value) (h : us.length = ps_is_row_of_letters.length) : bindArgs (PySem.W.fnOf "is_row_of_letters" "is_row_of_letters" (defArgs s_is_row_of_letters) (defBody s_is_row_of_letters) (defScope s_is_row_of_letters) .none kV doc pm an cdv ct) ⟨us, []⟩ = pure (ps_is_row_of_letters.zip us) := match us, h with | [_, _], _ => rfl
abbrev s_is_rising : Stmt := topS 39
abbrev N_is_rising : List Str := ["numbers", "many", "last", "number"]
abbrev ps_is_rising : List Str := ["numbers", "many"]
theorem sc_is_rising : FnScope N_is_rising ps_is_rising (defScope s_is_rising) := ⟨rfl, rfl, rfl, by decide +kernel, rfl, by decide +kernel, by decide +kernel⟩
theorem bd_is_rising (kV doc pm : Value) (an : Option Addr) (cdv ct : Value) (us : List Value) (h : us.length = ps_is_rising.length) : bindArgs (PySem.W.fnOf "is_rising" "is_rising" (defArgs s_is_rising) (defBody s_is_rising) (defScope s_is_rising) .none kV doc pm an cdv ct) ⟨us, []⟩ = pure (ps_is_rising.zip us) := match us, h with | [_, _], _ => rfl
abbrev s_parts_reason : Stmt := topS 72
abbrev N_parts_reason : List Str := ["font"]
abbrev ps_parts_reason : List Str := ["font"]
theorem sc_parts_reason : FnScope N_parts_reason ps_parts_reason (defScope s_parts_reason) := ⟨rfl, rfl, rfl, by decide +kernel, rfl, by decide +kernel, by decide +kernel⟩
theorem bd_parts_reason (kV doc pm : Value) (an : Option Addr) (cdv ct : Value) (us : List Value) (h : us.length = ps_parts_reason.length) : bindArgs (PySem.W.fnOf "parts_reason" "parts_reason" (defArgs s_parts_reason) (defBody s_parts_reason) (defScope s_parts_reason) .none kV doc pm an cdv ct) ⟨us, []⟩ = pure (ps_parts_reason.zip us) := match us, h with | [_], _ => rfl
abbrev s_depths_of : Stmt := topS 25
abbrev N_depths_of : List Str := ["glyphs", "depths", "level", "k", "found"]
abbrev ps_depths_of : List Str := ["glyphs"]
theorem sc_depths_of : FnScope N_depths_of ps_depths_of (defScope s_depths_of) := ⟨rfl, rfl, rfl, by decide +kernel, rfl, by decide +kernel, by decide +kernel⟩
theorem bd_depths_of (kV doc pm : Value) (an : Option Addr) (cdv ct : Value) (us : List Value) (h : us.length = ps_depths_of.length) : bindArgs (PySem.W.fnOf "depths_of" "depths_of" (defArgs s_depths_of) (defBody s_depths_of) (defScope s_depths_of) .none kV doc pm an cdv ct) ⟨us, []⟩ = pure (ps_depths_of.zip us) := match us, h with | [_], _ => rfl
abbrev s_has_parts_in : Stmt := topS 26
abbrev N_has_parts_in : List Str := ["glyph", "depths", "part"]
abbrev ps_has_parts_in : List Str := ["glyph", "depths"]
theorem sc_has_parts_in : FnScope N_has_parts_in ps_has_parts_in (defScope s_has_parts_in) := ⟨rfl, rfl, rfl, by decide +kernel, rfl, by decide +kernel, by decide +kernel⟩
theorem bd_has_parts_in (kV doc pm : Value) (an : Option Addr) (cdv ct : Value) (us : List Value) (h : us.length = ps_has_parts_in.length) : bindArgs (PySem.W.fnOf "has_parts_in" "has_parts_in" (defArgs s_has_parts_in) (defBody s_has_parts_in) (defScope s_has_parts_in) .none kV doc pm an cdv ct) ⟨us, []⟩ = pure (ps_has_parts_in.zip us) := match us, h with | [_, _], _ => rfl
abbrev s_is_part : Stmt := topS 69
abbrev N_is_part : List Str := ["font", "part", "number", "x", "y"]
abbrev ps_is_part : List Str := ["font", "part"]
theorem sc_is_part : FnScope N_is_part ps_is_part (defScope s_is_part) := ⟨rfl, rfl, rfl, by decide +kernel, rfl, by decide +kernel, by decide +kernel⟩
theorem bd_is_part (kV doc pm : Value) (an : Option Addr) (cdv ct : Value) (us : List Value) (h : us.length = ps_is_part.length) : bindArgs (PySem.W.fnOf "is_part" "is_part" (defArgs s_is_part) (defBody s_is_part) (defScope s_is_part) .none kV doc pm an cdv ct) ⟨us, []⟩ = pure (ps_is_part.zip us) := match us, h with | [_, _], _ => rfl
abbrev s_is_anchor : Stmt := topS 70
abbrev N_is_anchor : List Str := ["anchor", "kind", "group", "x", "y"]
abbrev ps_is_anchor : List Str := ["anchor"]
theorem sc_is_anchor : FnScope N_is_anchor ps_is_anchor (defScope s_is_anchor) := ⟨rfl, rfl, rfl, by decide +kernel, rfl, by decide +kernel, by decide +kernel⟩
theorem bd_is_anchor (kV doc pm : Value) (an : Option Addr) (cdv ct : Value) (us : List Value) (h : us.length = ps_is_anchor.length) : bindArgs (PySem.W.fnOf "is_anchor" "is_anchor" (defArgs s_is_anchor) (defBody s_is_anchor) (defScope s_is_anchor) .none kV doc pm an cdv ct) ⟨us, []⟩ = pure (ps_is_anchor.zip us) := match us, h with | [_], _ => rfl
abbrev s_is_delta : Stmt := topS 71
abbrev N_is_delta : List Str := ["font", "glyph", "delta", "region", "point", "x", "y"]
abbrev ps_is_delta : List Str := ["font", "glyph", "delta"]
theorem sc_is_delta : FnScope N_is_delta ps_is_delta (defScope s_is_delta) := ⟨rfl, rfl, rfl, by decide +kernel, rfl, by decide +kernel, by decide +kernel⟩
theorem bd_is_delta (kV doc pm : Value) (an : Option Addr) (cdv ct : Value) (us : List Value) (h : us.length = ps_is_delta.length) : bindArgs (PySem.W.fnOf "is_delta" "is_delta" (defArgs s_is_delta) (defBody s_is_delta) (defScope s_is_delta) .none kV doc pm an cdv ct) ⟨us, []⟩ = pure (ps_is_delta.zip us) := match us, h with | [_, _, _], _ => rfl
abbrev s_is_instruction : Stmt := topS 57
abbrev N_is_instruction : List Str := ["step"]
abbrev ps_is_instruction : List Str := ["step"]
theorem sc_is_instruction : FnScope N_is_instruction ps_is_instruction (defScope s_is_instruction) := ⟨rfl, rfl, rfl, by decide +kernel, rfl, by decide +kernel, by decide +kernel⟩
theorem bd_is_instruction (kV doc pm : Value) (an : Option Addr) (cdv ct : Value) (us : List Value) (h : us.length = ps_is_instruction.length) : bindArgs (PySem.W.fnOf "is_instruction" "is_instruction" (defArgs s_is_instruction) (defBody s_is_instruction) (defScope s_is_instruction) .none kV doc pm an cdv ct) ⟨us, []⟩ = pure (ps_is_instruction.zip us) := match us, h with | [_], _ => rfl
abbrev s_count_points : Stmt := topS 36
abbrev N_count_points : List Str := ["outline", "contour"]
abbrev ps_count_points : List Str := ["outline"]
theorem sc_count_points : FnScope N_count_points ps_count_points (defScope s_count_points) := ⟨rfl, rfl, rfl, by decide +kernel, rfl, by decide +kernel, by decide +kernel⟩
theorem bd_count_points (kV doc pm : Value) (an : Option Addr) (cdv ct : Value) (us : List Value) (h : us.length = ps_count_points.length) : bindArgs (PySem.W.fnOf "count_points" "count_points" (defArgs s_count_points) (defBody s_count_points) (defScope s_count_points) .none kV doc pm an cdv ct) ⟨us, []⟩ = pure (ps_count_points.zip us) := match us, h with | [_], _ => rfl
abbrev s_is_proper : Stmt := topS 35
abbrev N_is_proper : List Str := ["outline", "contour", "x", "y", "_"]
abbrev ps_is_proper : List Str := ["outline"]
theorem sc_is_proper : FnScope N_is_proper ps_is_proper (defScope s_is_proper) := ⟨rfl, rfl, rfl, by decide +kernel, rfl, by decide +kernel, by decide +kernel⟩
theorem bd_is_proper (kV doc pm : Value) (an : Option Addr) (cdv ct : Value) (us : List Value) (h : us.length = ps_is_proper.length) : bindArgs (PySem.W.fnOf "is_proper" "is_proper" (defArgs s_is_proper) (defBody s_is_proper) (defScope s_is_proper) .none kV doc pm an cdv ct) ⟨us, []⟩ = pure (ps_is_proper.zip us) := match us, h with | [_], _ => rfl
abbrev s_glyph_reason : Stmt := topS 68
abbrev N_glyph_reason : List Str := ["font", "glyph", "part", "anchor", "delta", "step"]
abbrev ps_glyph_reason : List Str := ["font", "glyph"]
theorem sc_glyph_reason : FnScope N_glyph_reason ps_glyph_reason (defScope s_glyph_reason) := ⟨rfl, rfl, rfl, by decide +kernel, rfl, by decide +kernel, by decide +kernel⟩
theorem bd_glyph_reason (kV doc pm : Value) (an : Option Addr) (cdv ct : Value) (us : List Value) (h : us.length = ps_glyph_reason.length) : bindArgs (PySem.W.fnOf "glyph_reason" "glyph_reason" (defArgs s_glyph_reason) (defBody s_glyph_reason) (defScope s_glyph_reason) .none kV doc pm an cdv ct) ⟨us, []⟩ = pure (ps_glyph_reason.zip us) := match us, h with | [_, _], _ => rfl
abbrev s_first_glyph_fault : Stmt := topS 63
abbrev N_first_glyph_fault : List Str := ["font", "number", "glyph", "reason"]
abbrev ps_first_glyph_fault : List Str := ["font"]
theorem sc_first_glyph_fault : FnScope N_first_glyph_fault ps_first_glyph_fault (defScope s_first_glyph_fault) := ⟨rfl, rfl, rfl, by decide +kernel, rfl, by decide +kernel, by decide +kernel⟩
theorem bd_first_glyph_fault (kV doc pm : Value) (an : Option Addr) (cdv ct : Value) (us : List Value) (h : us.length = ps_first_glyph_fault.length) : bindArgs (PySem.W.fnOf "first_glyph_fault" "first_glyph_fault" (defArgs s_first_glyph_fault) (defBody s_first_glyph_fault) (defScope s_first_glyph_fault) .none kV doc pm an cdv ct) ⟨us, []⟩ = pure (ps_first_glyph_fault.zip us) := match us, h with | [_], _ => rfl
abbrev s_first_fault : Stmt := topS 61
abbrev N_first_fault : List Str := ["font"]
abbrev ps_first_fault : List Str := ["font"]
theorem sc_first_fault : FnScope N_first_fault ps_first_fault (defScope s_first_fault) := ⟨rfl, rfl, rfl, by decide +kernel, rfl, by decide +kernel, by decide +kernel⟩
theorem bd_first_fault (kV doc pm : Value) (an : Option Addr) (cdv ct : Value) (us : List Value) (h : us.length = ps_first_fault.length) : bindArgs (PySem.W.fnOf "first_fault" "first_fault" (defArgs s_first_fault) (defBody s_first_fault) (defScope s_first_fault) .none kV doc pm an cdv ct) ⟨us, []⟩ = pure (ps_first_fault.zip us) := match us, h with | [_], _ => rfl
abbrev s_Font : Stmt := inClass (topS 84) 0
abbrev N_Font : List Str := ["self", "unit", "glyphs", "chars", "lookups", "features", "axes", "regions", "functions", "presets", "fault", "glyph", "lookup", "name", "numbers", "region", "function"]
abbrev ps_Font : List Str := ["self", "unit", "glyphs", "chars", "lookups", "features", "axes", "regions", "functions", "presets"]
theorem sc_Font : FnScope N_Font ps_Font (defScope s_Font) := ⟨rfl, rfl, rfl, by decide +kernel, rfl, by decide +kernel, by decide +kernel⟩
abbrev s_new_item : Stmt := topS 22
abbrev N_new_item : List Str := ["font", "glyph", "cluster", "form"]
abbrev ps_new_item : List Str := ["font", "glyph", "cluster", "form"]
theorem sc_new_item : FnScope N_new_item ps_new_item (defScope s_new_item) := ⟨rfl, rfl, rfl, by decide +kernel, rfl, by decide +kernel, by decide +kernel⟩
theorem bd_new_item (kV doc pm : Value) (an : Option Addr) (cdv ct : Value) (us : List Value) (h : us.length = ps_new_item.length) : bindArgs (PySem.W.fnOf "new_item" "new_item" (defArgs s_new_item) (defBody s_new_item) (defScope s_new_item) .none kV doc pm an cdv ct) ⟨us, []⟩ = pure (ps_new_item.zip us) := match us, h with | [_, _, _, _], _ => rfl
abbrev s_swapped : Stmt := topS 18
abbrev N_swapped : List Str := ["font", "rule", "item", "glyph"]
abbrev ps_swapped : List Str := ["font", "rule", "item"]
theorem sc_swapped : FnScope N_swapped ps_swapped (defScope s_swapped) := ⟨rfl, rfl, rfl, by decide +kernel, rfl, by decide +kernel, by decide +kernel⟩
theorem bd_swapped (kV doc pm : Value) (an : Option Addr) (cdv ct : Value) (us : List Value) (h : us.length = ps_swapped.length) : bindArgs (PySem.W.fnOf "swapped" "swapped" (defArgs s_swapped) (defBody s_swapped) (defScope s_swapped) .none kV doc pm an cdv ct) ⟨us, []⟩ = pure (ps_swapped.zip us) := match us, h with | [_, _, _], _ => rfl
abbrev s_replaced : Stmt := topS 17
abbrev N_replaced : List Str := ["font", "kind", "rule", "item", "glyph"]
abbrev ps_replaced : List Str := ["font", "kind", "rule", "item"]
theorem sc_replaced : FnScope N_replaced ps_replaced (defScope s_replaced) := ⟨rfl, rfl, rfl, by decide +kernel, rfl, by decide +kernel, by decide +kernel⟩
theorem bd_replaced (kV doc pm : Value) (an : Option Addr) (cdv ct : Value) (us : List Value) (h : us.length = ps_replaced.length) : bindArgs (PySem.W.fnOf "replaced" "replaced" (defArgs s_replaced) (defBody s_replaced) (defScope s_replaced) .none kV doc pm an cdv ct) ⟨us, []⟩ = pure (ps_replaced.zip us) := match us, h with | [_, _, _, _], _ => rfl
abbrev s_joined : Stmt := topS 19
abbrev N_joined : List Str := ["font", "rule", "items", "matched", "cluster", "passed", "first", "index", "item"]
abbrev ps_joined : List Str := ["font", "rule", "items", "matched"]
theorem sc_joined : FnScope N_joined ps_joined (defScope s_joined) := ⟨rfl, rfl, rfl, by decide +kernel, rfl, by decide +kernel, by decide +kernel⟩
theorem bd_joined (kV doc pm : Value) (an : Option Addr) (cdv ct : Value) (us : List Value) (h : us.length = ps_joined.length) : bindArgs (PySem.W.fnOf "joined" "joined" (defArgs s_joined) (defBody s_joined) (defScope s_joined) .none kV doc pm an cdv ct) ⟨us, []⟩ = pure (ps_joined.zip us) := match us, h with | [_, _, _, _], _ => rfl
abbrev s_called : Stmt := topS 20
abbrev N_called : List Str := ["font", "rule", "items", "matched", "rule_at", "made", "index", "lookup", "place"]
abbrev ps_called : List Str := ["font", "rule", "items", "matched", "rule_at"]
theorem sc_called : FnScope N_called ps_called (defScope s_called) := ⟨rfl, rfl, rfl, by decide +kernel, rfl, by decide +kernel, by decide +kernel⟩
theorem bd_called (kV doc pm : Value) (an : Option Addr) (cdv ct : Value) (us : List Value) (h : us.length = ps_called.length) : bindArgs (PySem.W.fnOf "called" "called" (defArgs s_called) (defBody s_called) (defScope s_called) .none kV doc pm an cdv ct) ⟨us, []⟩ = pure (ps_called.zip us) := match us, h with | [_, _, _, _, _], _ => rfl
abbrev s_called_at : Stmt := topS 21
abbrev N_called_at : List Str := ["font", "lookup", "item", "rule_at", "rule"]
abbrev ps_called_at : List Str := ["font", "lookup", "item", "rule_at"]
theorem sc_called_at : FnScope N_called_at ps_called_at (defScope s_called_at) := ⟨rfl, rfl, rfl, by decide +kernel, rfl, by decide +kernel, by decide +kernel⟩
theorem bd_called_at (kV doc pm : Value) (an : Option Addr) (cdv ct : Value) (us : List Value) (h : us.length = ps_called_at.length) : bindArgs (PySem.W.fnOf "called_at" "called_at" (defArgs s_called_at) (defBody s_called_at) (defScope s_called_at) .none kV doc pm an cdv ct) ⟨us, []⟩ = pure (ps_called_at.zip us) := match us, h with | [_, _, _, _], _ => rfl
abbrev s_what_becomes : Stmt := topS 16
abbrev N_what_becomes : List Str := ["font", "lookup", "rule", "items", "matched", "rule_at", "kind"]
abbrev ps_what_becomes : List Str := ["font", "lookup", "rule", "items", "matched", "rule_at"]
theorem sc_what_becomes : FnScope N_what_becomes ps_what_becomes (defScope s_what_becomes) := ⟨rfl, rfl, rfl, by decide +kernel, rfl, by decide +kernel, by decide +kernel⟩
theorem bd_what_becomes (kV doc pm : Value) (an : Option Addr) (cdv ct : Value) (us : List Value) (h : us.length = ps_what_becomes.length) : bindArgs (PySem.W.fnOf "what_becomes" "what_becomes" (defArgs s_what_becomes) (defBody s_what_becomes) (defScope s_what_becomes) .none kV doc pm an cdv ct) ⟨us, []⟩ = pure (ps_what_becomes.zip us) := match us, h with | [_, _, _, _, _, _], _ => rfl
abbrev s_walked_on : Stmt := topS 14
abbrev N_walked_on : List Str := ["font", "lookup", "run", "forms", "rule_at", "items", "at", "rule", "counting", "matched", "made"]
abbrev ps_walked_on : List Str := ["font", "lookup", "run", "forms", "rule_at"]
theorem sc_walked_on : FnScope N_walked_on ps_walked_on (defScope s_walked_on) := ⟨rfl, rfl, rfl, by decide +kernel, rfl, by decide +kernel, by decide +kernel⟩
theorem bd_walked_on (kV doc pm : Value) (an : Option Addr) (cdv ct : Value) (us : List Value) (h : us.length = ps_walked_on.length) : bindArgs (PySem.W.fnOf "walked_on" "walked_on" (defArgs s_walked_on) (defBody s_walked_on) (defScope s_walked_on) .none kV doc pm an cdv ct) ⟨us, []⟩ = pure (ps_walked_on.zip us) := match us, h with | [_, _, _, _, _], _ => rfl
abbrev s_walked_back : Stmt := topS 15
abbrev N_walked_back : List Str := ["font", "lookup", "run", "forms", "rule_at", "items", "at", "rule"]
abbrev ps_walked_back : List Str := ["font", "lookup", "run", "forms", "rule_at"]
theorem sc_walked_back : FnScope N_walked_back ps_walked_back (defScope s_walked_back) := ⟨rfl, rfl, rfl, by decide +kernel, rfl, by decide +kernel, by decide +kernel⟩
theorem bd_walked_back (kV doc pm : Value) (an : Option Addr) (cdv ct : Value) (us : List Value) (h : us.length = ps_walked_back.length) : bindArgs (PySem.W.fnOf "walked_back" "walked_back" (defArgs s_walked_back) (defBody s_walked_back) (defScope s_walked_back) .none kV doc pm an cdv ct) ⟨us, []⟩ = pure (ps_walked_back.zip us) := match us, h with | [_, _, _, _, _], _ => rfl
abbrev s_applied : Stmt := topS 13
abbrev N_applied : List Str := ["font", "lookup", "run", "forms", "rule_at", "kind", "walked"]
abbrev ps_applied : List Str := ["font", "lookup", "run", "forms", "rule_at"]
theorem sc_applied : FnScope N_applied ps_applied (defScope s_applied) := ⟨rfl, rfl, rfl, by decide +kernel, rfl, by decide +kernel, by decide +kernel⟩
theorem bd_applied (kV doc pm : Value) (an : Option Addr) (cdv ct : Value) (us : List Value) (h : us.length = ps_applied.length) : bindArgs (PySem.W.fnOf "applied" "applied" (defArgs s_applied) (defBody s_applied) (defScope s_applied) .none kV doc pm an cdv ct) ⟨us, []⟩ = pure (ps_applied.zip us) := match us, h with | [_, _, _, _, _], _ => rfl
abbrev s_apply_rules : Stmt := topS 12
abbrev N_apply_rules : List Str := ["font", "lookup", "run", "forms"]
abbrev ps_apply_rules : List Str := ["font", "lookup", "run", "forms"]
theorem sc_apply_rules : FnScope N_apply_rules ps_apply_rules (defScope s_apply_rules) := ⟨rfl, rfl, rfl, by decide +kernel, rfl, by decide +kernel, by decide +kernel⟩
theorem bd_apply_rules_3 (T : Addr) (kV doc pm : Value) (an : Option Addr) (cdv ct : Value) (us its : List Value) (h : us.length = 3) (h2 : its.length = 1) : ∃ k, bindArgs (PySem.W.fnOf "apply_rules" "apply_rules" (defArgs s_apply_rules) (defBody s_apply_rules) (defScope s_apply_rules) (.ref T) kV doc pm an cdv ct) ⟨us, []⟩ = seqItems? (.ref T) >>= k ∧ k (some its.toArray) = pure (ps_apply_rules.zip (us ++ its.drop 0)) := match us, h, its, h2 with | [_, _, _], _, [_], _ => ⟨_, rfl, rfl⟩
theorem bd_apply_rules_4 (T : Addr) (kV doc pm : Value) (an : Option Addr) (cdv ct : Value) (us its : List Value) (h : us.length = 4) (h2 : its.length = 1) : ∃ k, bindArgs (PySem.W.fnOf "apply_rules" "apply_rules" (defArgs s_apply_rules) (defBody s_apply_rules) (defScope s_apply_rules) (.ref T) kV doc pm an cdv ct) ⟨us, []⟩ = seqItems? (.ref T) >>= k ∧ k (some its.toArray) = pure (ps_apply_rules.zip (us ++ its.drop 1)) := match us, h, its, h2 with | [_, _, _, _], _, [_], _ => ⟨_, rfl, rfl⟩
abbrev s_law_puts : Stmt := topS 101
abbrev N_law_puts : List Str := ["world", "lookup", "kind", "rules", "ignore", "found", "inside", "back", "ahead", "out", "calls", "index", "called_v", "one"]
abbrev ps_law_puts : List Str := ["world", "lookup"]
theorem sc_law_puts : FnScope N_law_puts ps_law_puts (defScope s_law_puts) := ⟨rfl, rfl, rfl, by decide +kernel, rfl, by decide +kernel, by decide +kernel⟩
theorem bd_law_puts (kV doc pm : Value) (an : Option Addr) (cdv ct : Value) (us : List Value) (h : us.length = ps_law_puts.length) : bindArgs (PySem.W.fnOf "_law_puts" "_law_puts" (defArgs s_law_puts) (defBody s_law_puts) (defScope s_law_puts) .none kV doc pm an cdv ct) ⟨us, []⟩ = pure (ps_law_puts.zip us) := match us, h with | [_, _], _ => rfl
abbrev s_law_twice : Stmt := topS 102
abbrev N_law_twice : List Str := ["rules", "found", "one"]
abbrev ps_law_twice : List Str := ["rules"]
theorem sc_law_twice : FnScope N_law_twice ps_law_twice (defScope s_law_twice) := ⟨rfl, rfl, rfl, by decide +kernel, rfl, by decide +kernel, by decide +kernel⟩
theorem bd_law_twice (kV doc pm : Value) (an : Option Addr) (cdv ct : Value) (us : List Value) (h : us.length = ps_law_twice.length) : bindArgs (PySem.W.fnOf "_law_twice" "_law_twice" (defArgs s_law_twice) (defBody s_law_twice) (defScope s_law_twice) .none kV doc pm an cdv ct) ⟨us, []⟩ = pure (ps_law_twice.zip us) := match us, h with | [_], _ => rfl
abbrev kw_Glyph (e_parts e_anchors e_deltas e_hint : Addr) : List (Str × V) := [("parts", .ref e_parts), ("anchors", .ref e_anchors), ("mark", .bl false), ("deltas", .ref e_deltas), ("hint", .ref e_hint)]
abbrev fl_Glyph : List Str := ["advance", "outline", "parts", "anchors", "mark", "deltas", "hint"]
abbrev kw_Rule (e_back e_ahead e_out e_calls : Addr) : List (Str × V) := [("back", .ref e_back), ("ahead", .ref e_ahead), ("out", .ref e_out), ("calls", .ref e_calls), ("extra", .int 0)]
abbrev fl_Rule : List Str := ["inside", "back", "ahead", "out", "calls", "extra"]
abbrev kw_Lookup  : List (Str × V) := [("ignore", .bl false)]
abbrev fl_Lookup : List Str := ["kind", "rules", "ignore"]
abbrev kw_Font (e_chars e_lookups e_features e_axes e_regions e_functions e_presets : Addr) : List (Str × V) := [("chars", .ref e_chars), ("lookups", .ref e_lookups), ("features", .ref e_features), ("axes", .ref e_axes), ("regions", .ref e_regions), ("functions", .ref e_functions), ("presets", .ref e_presets)]
abbrev fl_Font : List Str := ["unit", "glyphs", "chars", "lookups", "features", "axes", "regions", "functions", "presets"]
structure Txt (K : PySem.W.Frag) (mg : Str → Option Value) : Prop where
  z_abs : mg "abs" = none
  z_all : mg "all" = none
  z_enumerate : mg "enumerate" = none
  z_int : mg "int" = none
  z_len : mg "len" = none
  z_list : mg "list" = none
  z_min : mg "min" = none
  z_range : mg "range" = none
  z_reversed : mg "reversed" = none
  z_set : mg "set" = none
  z_sum : mg "sum" = none
  z_tuple : mg "tuple" = none
  z_zip : mg "zip" = none
  g_DEEPEST : ∃ u, mg "DEEPEST" = some u ∧ RelV (.int (4)) u
  g_FARTHEST : ∃ u, mg "FARTHEST" = some u ∧ RelV (.int (16384)) u
  g_LEAST_OF_CONTOUR : ∃ u, mg "LEAST_OF_CONTOUR" = some u ∧ RelV (.int (2)) u
  g_MOST_AROUND : ∃ u, mg "MOST_AROUND" = some u ∧ RelV (.int (3)) u
  g_MOST_CONTOURS : ∃ u, mg "MOST_CONTOURS" = some u ∧ RelV (.int (40)) u
  g_MOST_ITEMS : ∃ u, mg "MOST_ITEMS" = some u ∧ RelV (.int (1000)) u
  g_MOST_OUT : ∃ u, mg "MOST_OUT" = some u ∧ RelV (.int (8)) u
  g_MOST_POINTS : ∃ u, mg "MOST_POINTS" = some u ∧ RelV (.int (200)) u
  g_MOST_RULES : ∃ u, mg "MOST_RULES" = some u ∧ RelV (.int (12)) u
  d_match : ∃ e, EmT K e ∧ DefInD K mg "match" s_match [.ref e]
  d_law_mix : DefIn K mg "_law_mix" s_law_mix
  d_law_numbers : DefIn K mg "_law_numbers" s_law_numbers
  d_law_take : DefIn K mg "_law_take" s_law_take
  d_law_set : DefIn K mg "_law_set" s_law_set
  d_law_sets : DefIn K mg "_law_sets" s_law_sets
  d_law_rule : DefIn K mg "_law_rule" s_law_rule
  d_law_lookups : DefIn K mg "_law_lookups" s_law_lookups
  d_law_run : DefIn K mg "_law_run" s_law_run
  d_law_world : DefIn K mg "_law_world" s_law_world
  d_law : DefIn K mg "law" s_law
  d_tuples_of : DefIn K mg "tuples_of" s_tuples_of
  d_copied_rule : DefIn K mg "copied_rule" s_copied_rule
  d_copied_glyph : DefIn K mg "copied_glyph" s_copied_glyph
  d_copied_lookup : DefIn K mg "copied_lookup" s_copied_lookup
  d_law_font : DefIn K mg "_law_font" s_law_font
  d_sees : DefIn K mg "sees" s_sees
  d_seen_items : DefIn K mg "seen_items" s_seen_items
  d_are_in_sets : DefIn K mg "are_in_sets" s_are_in_sets
  d_matched_items : DefIn K mg "matched_items" s_matched_items
  d_is_set : DefIn K mg "is_set" s_is_set
  d_sets_reason : DefIn K mg "sets_reason" s_sets_reason
  d_out_reason : DefIn K mg "out_reason" s_out_reason
  d_calls_reason : DefIn K mg "calls_reason" s_calls_reason
  d_extra_reason : DefIn K mg "extra_reason" s_extra_reason
  d_lookup_reason : DefIn K mg "lookup_reason" s_lookup_reason
  d_first_lookup_fault : DefIn K mg "first_lookup_fault" s_first_lookup_fault
  d_many_reason : DefIn K mg "many_reason" s_many_reason
  d_unit_reason : DefIn K mg "unit_reason" s_unit_reason
  d_placed : DefIn K mg "placed" s_placed
  d_chars_reason : DefIn K mg "chars_reason" s_chars_reason
  d_axes_reason : DefIn K mg "axes_reason" s_axes_reason
  d_regions_reason : DefIn K mg "regions_reason" s_regions_reason
  d_functions_reason : DefIn K mg "functions_reason" s_functions_reason
  d_presets_reason : DefIn K mg "presets_reason" s_presets_reason
  d_features_reason : DefIn K mg "features_reason" s_features_reason
  d_is_row_of_letters : DefIn K mg "is_row_of_letters" s_is_row_of_letters
  d_is_rising : DefIn K mg "is_rising" s_is_rising
  d_parts_reason : DefIn K mg "parts_reason" s_parts_reason
  d_depths_of : DefIn K mg "depths_of" s_depths_of
  d_has_parts_in : DefIn K mg "has_parts_in" s_has_parts_in
  d_is_part : DefIn K mg "is_part" s_is_part
  d_is_anchor : DefIn K mg "is_anchor" s_is_anchor
  d_is_delta : DefIn K mg "is_delta" s_is_delta
  d_is_instruction : DefIn K mg "is_instruction" s_is_instruction
  d_count_points : DefIn K mg "count_points" s_count_points
  d_is_proper : DefIn K mg "is_proper" s_is_proper
  d_glyph_reason : DefIn K mg "glyph_reason" s_glyph_reason
  d_first_glyph_fault : DefIn K mg "first_glyph_fault" s_first_glyph_fault
  d_first_fault : DefIn K mg "first_fault" s_first_fault
  d_new_item : DefIn K mg "new_item" s_new_item
  d_swapped : DefIn K mg "swapped" s_swapped
  d_replaced : DefIn K mg "replaced" s_replaced
  d_joined : DefIn K mg "joined" s_joined
  d_called : DefIn K mg "called" s_called
  d_called_at : DefIn K mg "called_at" s_called_at
  d_what_becomes : DefIn K mg "what_becomes" s_what_becomes
  d_walked_on : DefIn K mg "walked_on" s_walked_on
  d_walked_back : DefIn K mg "walked_back" s_walked_back
  d_applied : DefIn K mg "applied" s_applied
  d_apply_rules : ∃ e, EmT K e ∧ DefInD K mg "apply_rules" s_apply_rules [.ref e]
  d_law_puts : DefIn K mg "_law_puts" s_law_puts
  d_law_twice : DefIn K mg "_law_twice" s_law_twice
  c_Glyph : ∃ e_parts e_anchors e_deltas e_hint : Addr, EmT K e_parts ∧ EmT K e_anchors ∧ EmT K e_deltas ∧ EmT K e_hint ∧ ClsI K mg "Glyph" "Glyph.__init__" s_Glyph fl_Glyph (kw_Glyph e_parts e_anchors e_deltas e_hint)
  c_Rule : ∃ e_back e_ahead e_out e_calls : Addr, EmT K e_back ∧ EmT K e_ahead ∧ EmT K e_out ∧ EmT K e_calls ∧ ClsI K mg "Rule" "Rule.__init__" s_Rule fl_Rule (kw_Rule e_back e_ahead e_out e_calls)
  c_Lookup : ClsI K mg "Lookup" "Lookup.__init__" s_Lookup fl_Lookup kw_Lookup
  c_Font : ∃ e_chars e_lookups e_features e_axes e_regions e_functions e_presets : Addr, EmT K e_chars ∧ EmT K e_lookups ∧ EmT K e_features ∧ EmT K e_axes ∧ EmT K e_regions ∧ EmT K e_functions ∧ EmT K e_presets ∧ ClsI K mg "Font" "Font.__init__" s_Font fl_Font (kw_Font e_chars e_lookups e_features e_axes e_regions e_functions e_presets)
  gt_REPLACING : mg "REPLACING" = some (.ref (adr mg "REPLACING"))
  gs_REPLACING : ∀ H : Hp, SqT K H (adr mg "REPLACING") [.str "single", .str "multiple", .str "ligature", .str "chain", .str "reverse"]
  gt_WITH_CONTEXT : mg "WITH_CONTEXT" = some (.ref (adr mg "WITH_CONTEXT"))
  gs_WITH_CONTEXT : ∀ H : Hp, SqT K H (adr mg "WITH_CONTEXT") [.str "chain", .str "reverse"]
  gt_WITH_OUT : mg "WITH_OUT" = some (.ref (adr mg "WITH_OUT"))
  gs_WITH_OUT : ∀ H : Hp, SqT K H (adr mg "WITH_OUT") [.str "single", .str "multiple", .str "ligature", .str "reverse"]

abbrev cs (mg : Str → Option Value) : Cs := ⟨adr mg "Glyph", adr mg "Rule", adr mg "Lookup", adr mg "Font"⟩
section
variable {P : Program} {w : World} {K : PySem.W.Frag} {mg : Str → Option Value} {base : Heap}
theorem ok_tuples_of (T : Txt K mg) : Has P w K mg base 1 "tuples_of" ps_tuples_of (spE K fTof) := by
  refine has_of T.d_tuples_of sc_tuples_of bd_tuples_of (fun vs H Q E h => ?_) (fun f cdv A outer s H vs Q E hr h => ?_)
  · obtain ⟨S, ds, d, hS, hd, ⟨r, L, rfl, _⟩, q⟩ := h
    obtain ⟨v, _, rfl, _, hd⟩ := hd.consE
    cases hd.nilE
    rfl
  · obtain ⟨S, ds, d, hS, hd, ⟨r, L, rfl, ⟨xs, hx, hm, hz⟩, rfl⟩, q⟩ := h
    obtain ⟨v, _, rfl, hv, hd⟩ := hd.consE
    cases hd.nilE
    have hl := sq2_len hm
    refine ⟨_, (pss_one (ps_ret (pe_lc (own := [("row", 1)]) rfl sc_tuples_of.nd (piS (K := K) rfl (pv 0)) (blkOk_by (by kernel_rfl)) (fun _ _ _ _ _ => (pg_name (i := 1) sc_tuples_of.nd rfl (.inl rfl))) (fun _ _ _ _ _ => pts_nil) (fun _ _ _ _ _ => (pe_callTy (clTupOf (K := K) rfl) (by rfl) T.z_tuple (by decide +kernel) (pa_cons (pv 1) pa_nil)))))), ?_⟩
    walk_at "fl.w"
    refine lcS (S := S) (fun i => (L[i]?).map .tuple) hS hv hx (by omega) (fun R h => ⟨_, rfl, h⟩) ?_ ?_
    · intro D i x e H2 hD he sm al hxe R N hR hN
      obtain ⟨l, hl1, hl2⟩ := sq2_at hm he
      refine g_name ⟨rfl, ?_⟩
      walk_at "fl.w"
      cases hxe with
      | lst n q r =>
        cases hl2
        refine ⟨_, _, rfl, .inl ⟨SqL.of q, fun p hp => ?_⟩⟩
        exact hR _ _ _ (by rw [hl1]; rfl) (Fl.Same.new hp) (Dq.newT al hp r)
      | tup n q r =>
        cases hl2
        refine ⟨_, _, rfl, .inr ⟨SqT.of q, ?_⟩⟩
        exact hR _ _ _ (by rw [hl1]; rfl) (L2.Same.refl _) (.tup n q r)
      | _ => cases hl2
    · intro D H2 sm hD hq
      rw [fm_ltA hl] at hq
      exact q _ _ sm hq
theorem ok_Glyph (T : Txt K mg) {e1 e2 e3 e4 : Addr} (c : ClsI K mg "Glyph" "Glyph.__init__" s_Glyph fl_Glyph (kw_Glyph e1 e2 e3 e4)) : InI P w K mg base 2 "Glyph" "Glyph.__init__" s_Glyph fl_Glyph (kw_Glyph e1 e2 e3 e4) ps_Glyph (spI K (adr mg "Glyph") fGl) := by
  have cl := c.cl
  have na := c.na
  have h_tuples_of := ok_tuples_of (P := P) (w := w) (base := base) T
  refine inI_of c sc_Glyph (fun vs H Q E h => ?_) (fun f cdv A outer s H vs Q E hr h => ?_)
  · obtain ⟨S, x, dx, ws, ds, fs, rfl, _, _, _, hd, ⟨o, p, n, d, hi, g, rfl, _⟩, q⟩ := h
    obtain ⟨v1, _, rfl, _, hd⟩ := hd.consE
    obtain ⟨v2, _, rfl, _, hd⟩ := hd.consE
    obtain ⟨v3, _, rfl, _, hd⟩ := hd.consE
    obtain ⟨v4, _, rfl, _, hd⟩ := hd.consE
    obtain ⟨v5, _, rfl, _, hd⟩ := hd.consE
    obtain ⟨v6, _, rfl, _, hd⟩ := hd.consE
    obtain ⟨v7, _, rfl, _, hd⟩ := hd.consE
    cases hd.nilE
    rfl
  · obtain ⟨S, x, dx, ws, ds, fs, rfl, hxS, hS, hx, hd, ⟨o, p, n, d, hi, g, rfl, gok, so, sp, sn, sd, sh, rfl⟩, q⟩ := h
    obtain ⟨v1, _, rfl, h1, hd⟩ := hd.consE
    obtain ⟨v2, _, rfl, h2, hd⟩ := hd.consE
    obtain ⟨v3, _, rfl, h3, hd⟩ := hd.consE
    obtain ⟨v4, _, rfl, h4, hd⟩ := hd.consE
    obtain ⟨v5, _, rfl, h5, hd⟩ := hd.consE
    obtain ⟨v6, _, rfl, h6, hd⟩ := hd.consE
    obtain ⟨v7, _, rfl, h7, hd⟩ := hd.consE
    cases hd.nilE
    have I0 := InitAt.start hx hS hxS
    refine ⟨_, (pss_cons (psFld (K := K) rfl (pv 0) (pv 1) rfl)
      (pss_cons (psFld (K := K) rfl (pv 0) (pe_lc (own := [("contour", 8)]) rfl sc_Glyph.nd (piS (K := K) rfl (pv 2)) (blkOk_by (by kernel_rfl)) (fun _ _ _ _ _ => (pg_name (i := 8) sc_Glyph.nd rfl (.inl rfl))) (fun _ _ _ _ _ => pts_nil) (fun _ _ _ _ _ => (pe_h h_tuples_of (hr.mono (by decide)) (pa_cons (pv 8) pa_nil)))) rfl)
      (pss_cons (psFld (K := K) rfl (pv 0) (pe_h h_tuples_of (hr.mono (by decide)) (pa_cons (pv 3) pa_nil)) rfl)
      (pss_cons (psFld (K := K) rfl (pv 0) (pe_h h_tuples_of (hr.mono (by decide)) (pa_cons (pv 4) pa_nil)) rfl)
      (pss_cons (psFld (K := K) rfl (pv 0) (pv 5) rfl)
      (pss_cons (psFld (K := K) rfl (pv 0) (pe_h h_tuples_of (hr.mono (by decide)) (pa_cons (pv 6) pa_nil)) rfl)
      (pss_one (psFld (K := K) rfl (pv 0) (pe_h h_tuples_of (hr.mono (by decide)) (pa_cons (pv 7) pa_nil)) rfl)))))))), ?_⟩
    walk_at "fl.w"
    have I1 := I0.put (I0.dqO (h1.dq gok.a)) "advance" rfl
    walk_at "fl.w"
    obtain ⟨xs, e1, e2, e3, e4⟩ := so
    refine lcS (S := S) (fun i => (g.outl[i]?).map ltD) I1.al (I1.deO h2) e1 (by omega) (fun R h => ⟨_, rfl, h⟩) ?_ ?_
    · intro D i x2 e H2 hD he sm al hxe R N hR hN
      obtain ⟨l, hl⟩ : ∃ l, g.outl[i]? = some l := by
        have := (List.getElem?_eq_some_iff.mp he).1
        exact ⟨g.outl[i]'(by omega), List.getElem?_eq_getElem _⟩
      refine g_name ⟨rfl, ?_⟩
      walk_at "fl.w"
      refine spE_app (D :: S) [e] (ltD l) al (.cons (.inl hxe) .nil) ⟨e, l, rfl, e3 i e l he hl, rfl⟩ (fun v H3 sm3 hv => ?_)
      exact hR _ _ _ (by rw [hl]; rfl) sm3 hv
    · intro D H2 sm2 hD hq2
      rw [fm_ltA e2] at hq2
      have I1s := I1.same sm2
      walk_at "fl.w"
      have I2 := I1s.put hq2 "outline" rfl
      walk_at "fl.w"
      refine spE_app S [p] (ltD g.parts) I2.al (.cons (I2.deO h3) .nil) ⟨p, _, rfl, sp, rfl⟩ (fun v H3 sm3 hv3 => ?_)
      have I2s := I2.same sm3
      walk_at "fl.w"
      have I3 := I2s.put hv3 "parts" rfl
      walk_at "fl.w"
      refine spE_app S [n] (ltD g.anch) I3.al (.cons (I3.deO h4) .nil) ⟨n, _, rfl, sn, rfl⟩ (fun v H4 sm4 hv4 => ?_)
      have I3s := I3.same sm4
      walk_at "fl.w"
      have I4 := I3s.put hv4 "anchors" rfl
      walk_at "fl.w"
      have I5 := I4.put (I4.dqO (h5.dq gok.m)) "mark" rfl
      walk_at "fl.w"
      refine spE_app S [d] (ltD g.deltas) I5.al (.cons (I5.deO h6) .nil) ⟨d, _, rfl, sd, rfl⟩ (fun v H6 sm6 hv6 => ?_)
      have I5s := I5.same sm6
      walk_at "fl.w"
      have I6 := I5s.put hv6 "deltas" rfl
      walk_at "fl.w"
      refine spE_app S [hi] (ltD g.hint) I6.al (.cons (I6.deO h7) .nil) ⟨hi, _, rfl, sh, rfl⟩ (fun v H7 sm7 hv7 => ?_)
      have I6s := I6.same sm7
      walk_at "fl.w"
      have I7 := I6s.put hv7 "hint" rfl
      walk_at "fl.w"
      exact q _ _ I7.fr I7.hx I7.dq
theorem ok_Rule (T : Txt K mg) {e1 e2 e3 e4 : Addr} (c : ClsI K mg "Rule" "Rule.__init__" s_Rule fl_Rule (kw_Rule e1 e2 e3 e4)) : InI P w K mg base 2 "Rule" "Rule.__init__" s_Rule fl_Rule (kw_Rule e1 e2 e3 e4) ps_Rule (spI K (adr mg "Rule") fRu) := by
  have cl := c.cl
  have na := c.na
  have h_tuples_of := ok_tuples_of (P := P) (w := w) (base := base) T
  refine inI_of c sc_Rule (fun vs H Q E h => ?_) (fun f cdv A outer s H vs Q E hr h => ?_)
  · obtain ⟨S, x, dx, ws, ds, fs, rfl, _, _, _, hd, ⟨i, b, a, o, ca, r, rfl, _⟩, q⟩ := h
    obtain ⟨v1, _, rfl, _, hd⟩ := hd.consE
    obtain ⟨v2, _, rfl, _, hd⟩ := hd.consE
    obtain ⟨v3, _, rfl, _, hd⟩ := hd.consE
    obtain ⟨v4, _, rfl, _, hd⟩ := hd.consE
    obtain ⟨v5, _, rfl, _, hd⟩ := hd.consE
    obtain ⟨v6, _, rfl, _, hd⟩ := hd.consE
    cases hd.nilE
    rfl
  · obtain ⟨S, x, dx, ws, ds, fs, rfl, hxS, hS, hx, hd, ⟨i, b, a, o, ca, r, rfl, rok, si, sb, sa, so, sc, rfl⟩, q⟩ := h
    obtain ⟨v1, _, rfl, h1, hd⟩ := hd.consE
    obtain ⟨v2, _, rfl, h2, hd⟩ := hd.consE
    obtain ⟨v3, _, rfl, h3, hd⟩ := hd.consE
    obtain ⟨v4, _, rfl, h4, hd⟩ := hd.consE
    obtain ⟨v5, _, rfl, h5, hd⟩ := hd.consE
    obtain ⟨v6, _, rfl, h6, hd⟩ := hd.consE
    cases hd.nilE
    have I0 := InitAt.start hx hS hxS
    refine ⟨_, (pss_cons (psFld (K := K) rfl (pv 0) (pe_lc (own := [("chosen", 7)]) rfl sc_Rule.nd (piS (K := K) rfl (pv 1)) (blkOk_by (by kernel_rfl)) (fun _ _ _ _ _ => (pg_name (i := 7) sc_Rule.nd rfl (.inl rfl))) (fun _ _ _ _ _ => pts_nil) (fun _ _ _ _ _ => (pe_callTy (clLstOf (K := K) rfl) (by rfl) T.z_list (by decide +kernel) (pa_cons (pv 7) pa_nil)))) rfl)
      (pss_cons (psFld (K := K) rfl (pv 0) (pe_lc (own := [("chosen", 7)]) rfl sc_Rule.nd (piS (K := K) rfl (pv 2)) (blkOk_by (by kernel_rfl)) (fun _ _ _ _ _ => (pg_name (i := 7) sc_Rule.nd rfl (.inl rfl))) (fun _ _ _ _ _ => pts_nil) (fun _ _ _ _ _ => (pe_callTy (clLstOf (K := K) rfl) (by rfl) T.z_list (by decide +kernel) (pa_cons (pv 7) pa_nil)))) rfl)
      (pss_cons (psFld (K := K) rfl (pv 0) (pe_lc (own := [("chosen", 7)]) rfl sc_Rule.nd (piS (K := K) rfl (pv 3)) (blkOk_by (by kernel_rfl)) (fun _ _ _ _ _ => (pg_name (i := 7) sc_Rule.nd rfl (.inl rfl))) (fun _ _ _ _ _ => pts_nil) (fun _ _ _ _ _ => (pe_callTy (clLstOf (K := K) rfl) (by rfl) T.z_list (by decide +kernel) (pa_cons (pv 7) pa_nil)))) rfl)
      (pss_cons (psFld (K := K) rfl (pv 0) (pe_callTy (clLstOf (K := K) rfl) (by rfl) T.z_list (by decide +kernel) (pa_cons (pv 4) pa_nil)) rfl)
      (pss_cons (psFld (K := K) rfl (pv 0) (pe_h h_tuples_of (hr.mono (by decide)) (pa_cons (pv 5) pa_nil)) rfl)
      (pss_one (psFld (K := K) rfl (pv 0) (pv 6) rfl))))))), ?_⟩
    walk_at "fl.w"
    obtain ⟨xs, e1, em, ez⟩ := si
    have el := sq2_len em
    refine lcS (S := S) (fun i => (r.inside[i]?).map .list) I0.al (I0.deO h1) e1 (by omega) (fun R h => ⟨_, rfl, h⟩) ?_ ?_
    · intro D i x2 e H2 hD he sm al hxe R N hR hN
      obtain ⟨l, hl1, hl2⟩ := sq2_at em he
      refine g_name ⟨rfl, ?_⟩
      walk_at "fl.w"
      exact lstOf_app al hxe hl2 fun l2 H3 sm3 hv => hR _ _ _ (by rw [hl1]; rfl) sm3 hv
    · intro D H2 sm2 hD hq2
      rw [fm_ltA el] at hq2
      have I1s := I0.same sm2
      walk_at "fl.w"
      have I1 := I1s.put hq2 "inside" rfl
      walk_at "fl.w"
      obtain ⟨xs, e1, em, ez⟩ := sb
      have el := sq2_len em
      refine lcS (S := S) (fun i => (r.back[i]?).map .list) I1.al (I1.deO h2) e1 (by omega) (fun R h => ⟨_, rfl, h⟩) ?_ ?_
      · intro D i x2 e H2 hD he sm al hxe R N hR hN
        obtain ⟨l, hl1, hl2⟩ := sq2_at em he
        refine g_name ⟨rfl, ?_⟩
        walk_at "fl.w"
        exact lstOf_app al hxe hl2 fun l2 H3 sm3 hv => hR _ _ _ (by rw [hl1]; rfl) sm3 hv
      · intro D H2 sm2 hD hq2
        rw [fm_ltA el] at hq2
        have I2s := I1.same sm2
        walk_at "fl.w"
        have I2 := I2s.put hq2 "back" rfl
        walk_at "fl.w"
        obtain ⟨xs, e1, em, ez⟩ := sa
        have el := sq2_len em
        refine lcS (S := S) (fun i => (r.ahead[i]?).map .list) I2.al (I2.deO h3) e1 (by omega) (fun R h => ⟨_, rfl, h⟩) ?_ ?_
        · intro D i x2 e H2 hD he sm al hxe R N hR hN
          obtain ⟨l, hl1, hl2⟩ := sq2_at em he
          refine g_name ⟨rfl, ?_⟩
          walk_at "fl.w"
          exact lstOf_app al hxe hl2 fun l2 H3 sm3 hv => hR _ _ _ (by rw [hl1]; rfl) sm3 hv
        · intro D H2 sm2 hD hq2
          rw [fm_ltA el] at hq2
          have I3s := I2.same sm2
          walk_at "fl.w"
          have I3 := I3s.put hq2 "ahead" rfl
          walk_at "fl.w"
          refine lstOf_de I3.al (I3.deO h4) so.1 fun v4 H4 sm4 hv4 => ?_
          have I4s := I3.same sm4
          walk_at "fl.w"
          have I4 := I4s.put hv4 "out" rfl
          walk_at "fl.w"
          refine spE_app S [ca] (ltD r.calls) I4.al (.cons (I4.deO h5) .nil) ⟨ca, _, rfl, sc, rfl⟩ (fun v H5 sm5 hv5 => ?_)
          have I5s := I4.same sm5
          walk_at "fl.w"
          have I5 := I5s.put hv5 "calls" rfl
          walk_at "fl.w"
          have I6 := I5.put (I5.dqO (h6.dq rok.e)) "extra" rfl
          walk_at "fl.w"
          exact q _ _ I6.fr I6.hx I6.dq
/-- Rule(inside, back=, ahead=, out=, calls=, extra=) -/
theorem mk_Rule_all {e1 e2 e3 e4 : Addr} {sp : Sp} (h : InI P w K mg base 2 "Rule" "Rule.__init__" s_Rule fl_Rule (kw_Rule e1 e2 e3 e4) ps_Rule sp) :
    MkI P w K mg base 2 "Rule" 1 ["back", "ahead", "out", "calls", "extra"] (fun vs zs => pick [0, 1, 2, 3, 4, 5, 6] (vs ++ ([] ++ zs))) sp :=
  h.make 1 ["back", "ahead", "out", "calls", "extra"] [] [0, 1, 2, 3, 4, 5, 6] (by simp) (fun q m => nomatch m) fun D doc pm an cdv ct us mv ws h1 h2 h3 => match us, h1, mv, h2, ws, h3 with | [_, _], _, [], _, [_, _, _, _, _], _ => rfl
/-- Glyph(advance, outline, parts=, anchors=, mark=, deltas=, hint=) -/
theorem mk_Glyph_all {e1 e2 e3 e4 : Addr} {sp : Sp} (h : InI P w K mg base 2 "Glyph" "Glyph.__init__" s_Glyph fl_Glyph (kw_Glyph e1 e2 e3 e4) ps_Glyph sp) :
    MkI P w K mg base 2 "Glyph" 2 ["parts", "anchors", "mark", "deltas", "hint"] (fun vs zs => pick [0, 1, 2, 3, 4, 5, 6, 7] (vs ++ ([] ++ zs))) sp :=
  h.make 2 ["parts", "anchors", "mark", "deltas", "hint"] [] [0, 1, 2, 3, 4, 5, 6, 7] (by simp) (fun q m => nomatch m) fun D doc pm an cdv ct us mv ws h1 h2 h3 => match us, h1, mv, h2, ws, h3 with | [_, _, _], _, [], _, [_, _, _, _, _], _ => rfl
theorem ok_copied_rule (T : Txt K mg) : Has P w K mg base 4 "copied_rule" ps_copied_rule (spD (fCr (adr mg "Rule"))) := by
  obtain ⟨e1, e2, e3, e4, m1, m2, m3, m4, c⟩ := T.c_Rule
  have cl := c.cl
  have na := c.na
  have mk_Rule_1_back_ahead_out_calls_extra := mk_Rule_all (ok_Rule (P := P) (w := w) (base := base) T c)
  refine has_of T.d_copied_rule sc_copied_rule bd_copied_rule (fun vs H Q E h => ?_) (fun f cdv A outer s H vs Q E hr h => ?_)
  · obtain ⟨S, ds, d, hS, hd, ⟨r, rok, rfl, rfl⟩, q⟩ := h
    obtain ⟨v, _, rfl, hv, hd⟩ := hd.consE
    cases hd.nilE
    rfl
  · obtain ⟨S, ds, d, hS, hd, ⟨r, rok, rfl, rfl⟩, q⟩ := h
    obtain ⟨v, _, rfl, hv, hd⟩ := hd.consE
    cases hd.nilE
    obtain ⟨a, dx, fs, rfl, ha, hA, hN⟩ := hv.insE
    obtain ⟨v1, fs, rfl, h1, hN⟩ := hN.consE
    obtain ⟨v2, fs, rfl, h2, hN⟩ := hN.consE
    obtain ⟨v3, fs, rfl, h3, hN⟩ := hN.consE
    obtain ⟨v4, fs, rfl, h4, hN⟩ := hN.consE
    obtain ⟨v5, fs, rfl, h5, hN⟩ := hN.consE
    obtain ⟨v6, fs, rfl, h6, hN⟩ := hN.consE
    cases hN.nilE
    refine ⟨_, (pss_one (ps_ret (pe_mk (mg := mg) rfl mk_Rule_1_back_ahead_out_calls_extra (hr.mono (by decide)) (pa_cons (peFld (K := K) rfl (pv 0) rfl) pa_nil) (pk_cons (peFld (K := K) rfl (pv 0) rfl) (pk_cons (peFld (K := K) rfl (pv 0) rfl) (pk_cons (peFld (K := K) rfl (pv 0) rfl) (pk_cons (peFld (K := K) rfl (pv 0) rfl) (pk_cons (peFld (K := K) rfl (pv 0) rfl) pk_nil)))))))), ?_⟩
    walk_at "fl.w"
    refine g_mk rfl rfl (mk_app (f := fRu) (ws := [v1, v2, v3, v4, v5, v6]) S [llD r.inside, llD r.back, llD r.ahead, .list r.out, ltD r.calls, r.extra] r.F (fun x => rfl) hS (.cons (.inl h1) (.cons (.inl h2) (.cons (.inl h3) (.cons (.inl h4) (.cons (.inl h5) (.cons (.inl h6) .nil))))))
      ⟨_, _, _, _, _, r, rfl, rok, .ll rok.i, .ll rok.b, .ll rok.a, .ls rok.o, .lt rok.c, rfl⟩ fun x H2 sm hv2 => q _ _ sm hv2)
theorem ok_copied_glyph (T : Txt K mg) : Has P w K mg base 4 "copied_glyph" ps_copied_glyph (spD (fCg (adr mg "Glyph"))) := by
  obtain ⟨e1, e2, e3, e4, m1, m2, m3, m4, c⟩ := T.c_Glyph
  have cl := c.cl
  have na := c.na
  have mk_Glyph_2_parts_anchors_mark_deltas_hint := mk_Glyph_all (ok_Glyph (P := P) (w := w) (base := base) T c)
  refine has_of T.d_copied_glyph sc_copied_glyph bd_copied_glyph (fun vs H Q E h => ?_) (fun f cdv A outer s H vs Q E hr h => ?_)
  · obtain ⟨S, ds, d, hS, hd, ⟨r, rok, rfl, rfl⟩, q⟩ := h
    obtain ⟨v, _, rfl, hv, hd⟩ := hd.consE
    cases hd.nilE
    rfl
  · obtain ⟨S, ds, d, hS, hd, ⟨r, rok, rfl, rfl⟩, q⟩ := h
    obtain ⟨v, _, rfl, hv, hd⟩ := hd.consE
    cases hd.nilE
    obtain ⟨a, dx, fs, rfl, ha, hA, hN⟩ := hv.insE
    obtain ⟨v1, fs, rfl, h1, hN⟩ := hN.consE
    obtain ⟨v2, fs, rfl, h2, hN⟩ := hN.consE
    obtain ⟨v3, fs, rfl, h3, hN⟩ := hN.consE
    obtain ⟨v4, fs, rfl, h4, hN⟩ := hN.consE
    obtain ⟨v5, fs, rfl, h5, hN⟩ := hN.consE
    obtain ⟨v6, fs, rfl, h6, hN⟩ := hN.consE
    obtain ⟨v7, fs, rfl, h7, hN⟩ := hN.consE
    cases hN.nilE
    refine ⟨_, (pss_one (ps_ret (pe_mk (mg := mg) rfl mk_Glyph_2_parts_anchors_mark_deltas_hint (hr.mono (by decide)) (pa_cons (peFld (K := K) rfl (pv 0) rfl) (pa_cons (peFld (K := K) rfl (pv 0) rfl) pa_nil)) (pk_cons (peFld (K := K) rfl (pv 0) rfl) (pk_cons (peFld (K := K) rfl (pv 0) rfl) (pk_cons (peFld (K := K) rfl (pv 0) rfl) (pk_cons (peFld (K := K) rfl (pv 0) rfl) (pk_cons (peFld (K := K) rfl (pv 0) rfl) pk_nil)))))))), ?_⟩
    walk_at "fl.w"
    refine g_mk rfl rfl (mk_app (f := fGl) (ws := [v1, v2, v3, v4, v5, v6, v7]) S [r.adv, ouD3 r.outl, ltD r.parts, ltD r.anch, r.mark, ltD r.deltas, ltD r.hint] r.F (fun x => rfl) hS (.cons (.inl h1) (.cons (.inl h2) (.cons (.inl h3) (.cons (.inl h4) (.cons (.inl h5) (.cons (.inl h6) (.cons (.inl h7) .nil)))))))
      ⟨_, _, _, _, _, r, rfl, rok, .ou rok.o rok.c, .lt rok.p, .lt rok.n, .lt rok.d, .lt rok.h, rfl⟩ fun x H2 sm hv2 => q _ _ sm hv2)
theorem ok_Lookup (T : Txt K mg) (c : ClsI K mg "Lookup" "Lookup.__init__" s_Lookup fl_Lookup kw_Lookup) : InI P w K mg base 5 "Lookup" "Lookup.__init__" s_Lookup fl_Lookup kw_Lookup ps_Lookup (spI K (adr mg "Lookup") (fLk (adr mg "Rule"))) := by
  have cl := c.cl
  have na := c.na
  have h_copied_rule := ok_copied_rule (P := P) (w := w) (base := base) T
  refine inI_of c sc_Lookup (fun vs H Q E h => ?_) (fun f cdv A outer s H vs Q E hr h => ?_)
  · obtain ⟨S, x, dx, ws, ds, fs, rfl, _, _, _, hd, ⟨k, rs, rfl, _⟩, q⟩ := h
    obtain ⟨v1, _, rfl, _, hd⟩ := hd.consE
    obtain ⟨v2, _, rfl, _, hd⟩ := hd.consE
    obtain ⟨v3, _, rfl, _, hd⟩ := hd.consE
    cases hd.nilE
    rfl
  · obtain ⟨S, x, dx, ws, ds, fs, rfl, hxS, hS, hx, hd, ⟨k, rs, rfl, kok, e1, rfl⟩, q⟩ := h
    obtain ⟨v1, _, rfl, h1, hd⟩ := hd.consE
    obtain ⟨v2, _, rfl, h2, hd⟩ := hd.consE
    obtain ⟨v3, _, rfl, h3, hd⟩ := hd.consE
    cases hd.nilE
    have I0 := InitAt.start hx hS hxS
    refine ⟨_, (pss_cons (psFld (K := K) rfl (pv 0) (pv 1) rfl)
      (pss_cons (psFld (K := K) rfl (pv 0) (pe_lc (own := [("rule", 4)]) rfl sc_Lookup.nd (piS (K := K) rfl (pv 2)) (blkOk_by (by kernel_rfl)) (fun _ _ _ _ _ => (pg_name (i := 4) sc_Lookup.nd rfl (.inl rfl))) (fun _ _ _ _ _ => pts_nil) (fun _ _ _ _ _ => (pe_h h_copied_rule (hr.mono (by decide)) (pa_cons (pv 4) pa_nil)))) rfl)
      (pss_one (psFld (K := K) rfl (pv 0) (pv 3) rfl)))), ?_⟩
    walk_at "fl.w"
    have I1 := I0.put (I0.dqO (h1.dq kok.k)) "kind" rfl
    walk_at "fl.w"
    refine lcS (S := S) (fun i => (k.rules[i]?).map fun r => insD (adr mg "Rule") r.F) I1.al (I1.deO h2) e1 (by rw [List.length_map]; exact kok.r) (fun R h => ⟨_, rfl, h⟩) ?_ ?_
    · intro D i x2 e H2 hD he sm al hxe R N hR hN
      obtain ⟨r, hr1, rfl⟩ := at_map he
      refine g_name ⟨rfl, ?_⟩
      walk_at "fl.w"
      refine spD_app (D :: S) [_] _ al (.cons hxe .nil) ⟨r, kok.ro r (List.mem_of_getElem? hr1), rfl, rfl⟩ (fun v H3 sm3 hv => ?_)
      exact hR _ _ _ (by rw [hr1]; rfl) sm3 hv
    · intro D H2 sm2 hD hq2
      rw [fm_ltA (by rw [List.length_map])] at hq2
      have I1s := I1.same sm2
      walk_at "fl.w"
      have I2 := I1s.put hq2 "rules" rfl
      walk_at "fl.w"
      have I3 := I2.put (I2.dqO (h3.dq kok.g)) "ignore" rfl
      walk_at "fl.w"
      exact q _ _ I3.fr I3.hx I3.dq
/-- Lookup(kind, rules, ignore=) -/
theorem mk_Lookup_all {sp : Sp} (h : InI P w K mg base 5 "Lookup" "Lookup.__init__" s_Lookup fl_Lookup kw_Lookup ps_Lookup sp) :
    MkI P w K mg base 5 "Lookup" 2 ["ignore"] (fun vs zs => pick [0, 1, 2, 3] (vs ++ ([] ++ zs))) sp :=
  h.make 2 ["ignore"] [] [0, 1, 2, 3] (by simp) (fun q m => nomatch m) fun D doc pm an cdv ct us mv ws h1 h2 h3 => match us, h1, mv, h2, ws, h3 with | [_, _, _], _, [], _, [_], _ => rfl
theorem ok_copied_lookup (T : Txt K mg) : Has P w K mg base 7 "copied_lookup" ps_copied_lookup (spD (fCl (adr mg "Rule") (adr mg "Lookup"))) := by
  have c := T.c_Lookup
  have cl := c.cl
  have na := c.na
  have mk_Lookup_2_ignore := mk_Lookup_all (ok_Lookup (P := P) (w := w) (base := base) T c)
  refine has_of T.d_copied_lookup sc_copied_lookup bd_copied_lookup (fun vs H Q E h => ?_) (fun f cdv A outer s H vs Q E hr h => ?_)
  · obtain ⟨S, ds, d, hS, hd, ⟨r, rok, rfl, rfl⟩, q⟩ := h
    obtain ⟨v, _, rfl, hv, hd⟩ := hd.consE
    cases hd.nilE
    rfl
  · obtain ⟨S, ds, d, hS, hd, ⟨k, kok, rfl, rfl⟩, q⟩ := h
    obtain ⟨v, _, rfl, hv, hd⟩ := hd.consE
    cases hd.nilE
    obtain ⟨a, dx, fs, rfl, ha, hA, hN⟩ := hv.insE
    obtain ⟨v1, fs, rfl, h1, hN⟩ := hN.consE
    obtain ⟨v2, fs, rfl, h2, hN⟩ := hN.consE
    obtain ⟨v3, fs, rfl, h3, hN⟩ := hN.consE
    cases hN.nilE
    refine ⟨_, (pss_one (ps_ret (pe_mk (mg := mg) rfl mk_Lookup_2_ignore (hr.mono (by decide)) (pa_cons (peFld (K := K) rfl (pv 0) rfl) (pa_cons (peFld (K := K) rfl (pv 0) rfl) pa_nil)) (pk_cons (peFld (K := K) rfl (pv 0) rfl) pk_nil)))), ?_⟩
    walk_at "fl.w"
    refine g_mk rfl rfl (mk_app (f := fLk (adr mg "Rule")) (ws := [v1, v2, v3]) S [k.kind, .list (k.rules.map fun r => insD (adr mg "Rule") r.F), k.ign] (k.F (adr mg "Rule")) (fun x => rfl) hS (.cons (.inl h1) (.cons (.inl h2) (.cons (.inl h3) .nil)))
      ⟨k, _, rfl, kok, rfl, rfl⟩ fun x H2 sm hv2 => q _ _ sm hv2)
end

section
end

/-! the end, by one kernel run -/
namespace He2
open He
abbrev R : PySem.W.OpenRow := PySem.W.OpenLaw.row PySem.Challenge.rw_fleuron_k22_lookups_one_after_another
abbrev qv : Program := PySem.W.view R.prog [103]
def tps : List Addr := [105]
def pls_0 : List Addr := [2, 3, 15, 22, 23, 24, 25, 28, 35, 37, 38, 40, 41, 42, 43, 44, 47, 54, 56, 57, 59, 60, 61, 62, 63, 66, 67, 69, 70, 72, 73, 74, 75, 76, 78, 79, 81, 82, 83, 85, 86, 88, 89, 90, 92, 93, 95, 96, 97, 100, 101, 102, 103, 104, 106, 107, 109, 110, 111, 113, 114, 116, 117, 118, 120, 121, 123, 124, 125, 127, 128, 130, 131, 132, 134, 135, 137, 138, 139, 142, 143, 144, 146, 147, 149, 150, 151, 154, 155, 156, 158, 159, 161, 162, 163, 165, 166, 168, 169, 170, 172, 173, 175, 176, 177, 180, 181, 182, 185, 186, 187, 190, 191, 192, 194, 195, 197, 198, 199, 202, 203, 204, 207, 208, 209, 211, 212, 214, 215, 216, 217, 218, 219, 220, 221, 222, 223, 224, 225, 226, 227, 229, 230, 232, 233, 234, 237, 238, 239, 241, 242, 244, 245, 246, 249, 250, 251, 253, 254, 256, 257, 258, 260, 261, 263, 264, 265, 266, 267, 268, 269, 270, 271, 272, 273, 274, 275, 276, 277, 278, 279, 280, 281, 282, 284, 285, 286, 287, 288, 289, 290, 291, 292, 293, 294, 295, 296, 297, 298, 299]
def pls_1 : List Addr := [300, 302, 303, 304, 305, 306, 307, 309, 310, 312, 313, 314, 315, 317, 318, 320, 321, 322, 324, 325, 327, 328, 329, 331, 332, 334, 335, 336, 338, 339, 341, 342, 343, 345, 346, 348, 349, 350, 352, 353, 355, 356, 357, 359, 360, 362, 363, 364, 367, 368, 369, 371, 372, 374, 375, 376, 378, 379, 381, 382, 383, 385, 386, 388, 389, 390, 392, 393, 395, 396, 397, 399, 400, 402, 403, 404, 407, 408, 409, 411, 412, 414, 415, 416, 419, 420, 421, 423, 424, 426, 427, 428, 431, 432, 433, 436, 437, 445, 446, 447, 448, 449, 450, 453, 454, 455, 456, 457, 458, 459, 469, 470, 471, 472, 473, 474, 477, 478, 479, 480, 481, 482, 483, 493, 494, 497, 498, 499, 500, 501, 502, 503, 513, 514, 515, 516, 517, 518, 519, 520, 521, 524, 525, 526, 527, 528, 529, 530, 533, 535, 536, 538, 539, 540, 542, 543, 545, 546, 547, 549, 550, 552, 553, 554, 556, 557, 559, 560, 561, 563, 564, 566, 567, 568, 570, 571, 573, 574, 587, 590, 591, 592, 595, 596, 597, 600, 601, 602, 605, 606, 607, 610, 611, 612, 614, 615, 617, 618, 619, 622]
def pls_2 : List Addr := [623, 624, 626, 627, 629, 630, 631, 633, 634, 636, 637, 638, 641, 642]
def pls : List Addr := pls_0 ++ (pls_1 ++ (pls_2))
def cks_0 : List Chk := [cFree "abs", cFree "all", cFree "enumerate", cFree "int", cFree "len", cFree "list", cFree "min", cFree "range", cFree "reversed", cFree "set", cFree "sum", cFree "tuple", cFree "zip", cInt "DEEPEST" (4), cInt "FARTHEST" (16384), cInt "LEAST_OF_CONTOUR" (2), cInt "MOST_AROUND" (3), cInt "MOST_CONTOURS" (40), cInt "MOST_ITEMS" (1000), cInt "MOST_OUT" (8), cInt "MOST_POINTS" (200), cInt "MOST_RULES" (12), fun K => emB K (dflAt ("match", none) 0 K), cGlo "match", cGlo "_law_mix", cGlo "_law_numbers", cGlo "_law_take", cGlo "_law_set", cGlo "_law_sets", cGlo "_law_rule"]
def cks_1 : List Chk := [cGlo "_law_lookups", cGlo "_law_run", cGlo "_law_world", cGlo "law", cGlo "tuples_of", cGlo "copied_rule", cGlo "copied_glyph", cGlo "copied_lookup", cGlo "_law_font", cGlo "sees", cGlo "seen_items", cGlo "are_in_sets", cGlo "matched_items", cGlo "is_set", cGlo "sets_reason", cGlo "out_reason", cGlo "calls_reason", cGlo "extra_reason", cGlo "lookup_reason", cGlo "first_lookup_fault", cGlo "many_reason", cGlo "unit_reason", cGlo "placed", cGlo "chars_reason", cGlo "axes_reason", cGlo "regions_reason", cGlo "functions_reason", cGlo "presets_reason", cGlo "features_reason", cGlo "is_row_of_letters"]
def cks_2 : List Chk := [cGlo "is_rising", cGlo "parts_reason", cGlo "depths_of", cGlo "has_parts_in", cGlo "is_part", cGlo "is_anchor", cGlo "is_delta", cGlo "is_instruction", cGlo "count_points", cGlo "is_proper", cGlo "glyph_reason", cGlo "first_glyph_fault", cGlo "first_fault", cGlo "new_item", cGlo "swapped", cGlo "replaced", cGlo "joined", cGlo "called", cGlo "called_at", cGlo "what_becomes", cGlo "walked_on", cGlo "walked_back", cGlo "applied", fun K => emB K (dflAt ("apply_rules", none) 0 K), cGlo "apply_rules", cGlo "_law_puts", cGlo "_law_twice", cGlo "Glyph", clsB "Glyph" fl_Glyph, fun K => emB K (kwAt "Glyph" "parts" K)]
def cks_3 : List Chk := [fun K => emB K (kwAt "Glyph" "anchors" K), fun K => emB K (kwAt "Glyph" "deltas" K), fun K => emB K (kwAt "Glyph" "hint" K), cGlo "Rule", clsB "Rule" fl_Rule, fun K => emB K (kwAt "Rule" "back" K), fun K => emB K (kwAt "Rule" "ahead" K), fun K => emB K (kwAt "Rule" "out" K), fun K => emB K (kwAt "Rule" "calls" K), cGlo "Lookup", clsB "Lookup" fl_Lookup, cGlo "Font", clsB "Font" fl_Font, fun K => emB K (kwAt "Font" "chars" K), fun K => emB K (kwAt "Font" "lookups" K), fun K => emB K (kwAt "Font" "features" K), fun K => emB K (kwAt "Font" "axes" K), fun K => emB K (kwAt "Font" "regions" K), fun K => emB K (kwAt "Font" "functions" K), fun K => emB K (kwAt "Font" "presets" K), cGlo "REPLACING", fun K => tupB K "REPLACING" [.str "single", .str "multiple", .str "ligature", .str "chain", .str "reverse"], cGlo "WITH_CONTEXT", fun K => tupB K "WITH_CONTEXT" [.str "chain", .str "reverse"], cGlo "WITH_OUT", fun K => tupB K "WITH_OUT" [.str "single", .str "multiple", .str "ligature", .str "reverse"], entB "INSIDE" "single" [.int (1), .int (1)], entB "INSIDE" "multiple" [.int (1), .int (1)], entB "INSIDE" "ligature" [.int (2), .int (4)], entB "INSIDE" "chain" [.int (1), .int (4)]]
def cks_4 : List Chk := [entB "INSIDE" "reverse" [.int (1), .int (1)], cGlo "INSIDE", cTab (fun K => ga K "apply_rules") 109 105]
def cks : List Chk := cks_0 ++ (cks_1 ++ (cks_2 ++ (cks_3 ++ (cks_4))))
def dfs_0 : List DefD := [⟨("match", none), "match", "match", defArgs s_match, defBody s_match, defScope s_match, [.adr (dflAt ("match", none) 0)], []⟩, ⟨("_law_mix", none), "_law_mix", "_law_mix", defArgs s_law_mix, defBody s_law_mix, defScope s_law_mix, [], []⟩, ⟨("_law_numbers", none), "_law_numbers", "_law_numbers", defArgs s_law_numbers, defBody s_law_numbers, defScope s_law_numbers, [], []⟩, ⟨("_law_take", none), "_law_take", "_law_take", defArgs s_law_take, defBody s_law_take, defScope s_law_take, [], []⟩, ⟨("_law_set", none), "_law_set", "_law_set", defArgs s_law_set, defBody s_law_set, defScope s_law_set, [], []⟩, ⟨("_law_sets", none), "_law_sets", "_law_sets", defArgs s_law_sets, defBody s_law_sets, defScope s_law_sets, [], []⟩, ⟨("_law_rule", none), "_law_rule", "_law_rule", defArgs s_law_rule, defBody s_law_rule, defScope s_law_rule, [], []⟩, ⟨("_law_lookups", none), "_law_lookups", "_law_lookups", defArgs s_law_lookups, defBody s_law_lookups, defScope s_law_lookups, [], []⟩, ⟨("_law_run", none), "_law_run", "_law_run", defArgs s_law_run, defBody s_law_run, defScope s_law_run, [], []⟩, ⟨("_law_world", none), "_law_world", "_law_world", defArgs s_law_world, defBody s_law_world, defScope s_law_world, [], []⟩, ⟨("law", none), "law", "law", defArgs s_law, defBody s_law, defScope s_law, [], []⟩, ⟨("tuples_of", none), "tuples_of", "tuples_of", defArgs s_tuples_of, defBody s_tuples_of, defScope s_tuples_of, [], []⟩, ⟨("copied_rule", none), "copied_rule", "copied_rule", defArgs s_copied_rule, defBody s_copied_rule, defScope s_copied_rule, [], []⟩, ⟨("copied_glyph", none), "copied_glyph", "copied_glyph", defArgs s_copied_glyph, defBody s_copied_glyph, defScope s_copied_glyph, [], []⟩, ⟨("copied_lookup", none), "copied_lookup", "copied_lookup", defArgs s_copied_lookup, defBody s_copied_lookup, defScope s_copied_lookup, [], []⟩, ⟨("_law_font", none), "_law_font", "_law_font", defArgs s_law_font, defBody s_law_font, defScope s_law_font, [], []⟩, ⟨("sees", none), "sees", "sees", defArgs s_sees, defBody s_sees, defScope s_sees, [], []⟩, ⟨("seen_items", none), "seen_items", "seen_items", defArgs s_seen_items, defBody s_seen_items, defScope s_seen_items, [], []⟩, ⟨("are_in_sets", none), "are_in_sets", "are_in_sets", defArgs s_are_in_sets, defBody s_are_in_sets, defScope s_are_in_sets, [], []⟩, ⟨("matched_items", none), "matched_items", "matched_items", defArgs s_matched_items, defBody s_matched_items, defScope s_matched_items, [], []⟩, ⟨("is_set", none), "is_set", "is_set", defArgs s_is_set, defBody s_is_set, defScope s_is_set, [], []⟩, ⟨("sets_reason", none), "sets_reason", "sets_reason", defArgs s_sets_reason, defBody s_sets_reason, defScope s_sets_reason, [], []⟩, ⟨("out_reason", none), "out_reason", "out_reason", defArgs s_out_reason, defBody s_out_reason, defScope s_out_reason, [], []⟩, ⟨("calls_reason", none), "calls_reason", "calls_reason", defArgs s_calls_reason, defBody s_calls_reason, defScope s_calls_reason, [], []⟩, ⟨("extra_reason", none), "extra_reason", "extra_reason", defArgs s_extra_reason, defBody s_extra_reason, defScope s_extra_reason, [], []⟩, ⟨("lookup_reason", none), "lookup_reason", "lookup_reason", defArgs s_lookup_reason, defBody s_lookup_reason, defScope s_lookup_reason, [], []⟩, ⟨("first_lookup_fault", none), "first_lookup_fault", "first_lookup_fault", defArgs s_first_lookup_fault, defBody s_first_lookup_fault, defScope s_first_lookup_fault, [], []⟩, ⟨("many_reason", none), "many_reason", "many_reason", defArgs s_many_reason, defBody s_many_reason, defScope s_many_reason, [], []⟩, ⟨("unit_reason", none), "unit_reason", "unit_reason", defArgs s_unit_reason, defBody s_unit_reason, defScope s_unit_reason, [], []⟩, ⟨("placed", none), "placed", "placed", defArgs s_placed, defBody s_placed, defScope s_placed, [], []⟩]
def dfs_1 : List DefD := [⟨("chars_reason", none), "chars_reason", "chars_reason", defArgs s_chars_reason, defBody s_chars_reason, defScope s_chars_reason, [], []⟩, ⟨("axes_reason", none), "axes_reason", "axes_reason", defArgs s_axes_reason, defBody s_axes_reason, defScope s_axes_reason, [], []⟩, ⟨("regions_reason", none), "regions_reason", "regions_reason", defArgs s_regions_reason, defBody s_regions_reason, defScope s_regions_reason, [], []⟩, ⟨("functions_reason", none), "functions_reason", "functions_reason", defArgs s_functions_reason, defBody s_functions_reason, defScope s_functions_reason, [], []⟩, ⟨("presets_reason", none), "presets_reason", "presets_reason", defArgs s_presets_reason, defBody s_presets_reason, defScope s_presets_reason, [], []⟩, ⟨("features_reason", none), "features_reason", "features_reason", defArgs s_features_reason, defBody s_features_reason, defScope s_features_reason, [], []⟩, ⟨("is_row_of_letters", none), "is_row_of_letters", "is_row_of_letters", defArgs s_is_row_of_letters, defBody s_is_row_of_letters, defScope s_is_row_of_letters, [], []⟩, ⟨("is_rising", none), "is_rising", "is_rising", defArgs s_is_rising, defBody s_is_rising, defScope s_is_rising, [], []⟩, ⟨("parts_reason", none), "parts_reason", "parts_reason", defArgs s_parts_reason, defBody s_parts_reason, defScope s_parts_reason, [], []⟩, ⟨("depths_of", none), "depths_of", "depths_of", defArgs s_depths_of, defBody s_depths_of, defScope s_depths_of, [], []⟩, ⟨("has_parts_in", none), "has_parts_in", "has_parts_in", defArgs s_has_parts_in, defBody s_has_parts_in, defScope s_has_parts_in, [], []⟩, ⟨("is_part", none), "is_part", "is_part", defArgs s_is_part, defBody s_is_part, defScope s_is_part, [], []⟩, ⟨("is_anchor", none), "is_anchor", "is_anchor", defArgs s_is_anchor, defBody s_is_anchor, defScope s_is_anchor, [], []⟩, ⟨("is_delta", none), "is_delta", "is_delta", defArgs s_is_delta, defBody s_is_delta, defScope s_is_delta, [], []⟩, ⟨("is_instruction", none), "is_instruction", "is_instruction", defArgs s_is_instruction, defBody s_is_instruction, defScope s_is_instruction, [], []⟩, ⟨("count_points", none), "count_points", "count_points", defArgs s_count_points, defBody s_count_points, defScope s_count_points, [], []⟩, ⟨("is_proper", none), "is_proper", "is_proper", defArgs s_is_proper, defBody s_is_proper, defScope s_is_proper, [], []⟩, ⟨("glyph_reason", none), "glyph_reason", "glyph_reason", defArgs s_glyph_reason, defBody s_glyph_reason, defScope s_glyph_reason, [], []⟩, ⟨("first_glyph_fault", none), "first_glyph_fault", "first_glyph_fault", defArgs s_first_glyph_fault, defBody s_first_glyph_fault, defScope s_first_glyph_fault, [], []⟩, ⟨("first_fault", none), "first_fault", "first_fault", defArgs s_first_fault, defBody s_first_fault, defScope s_first_fault, [], []⟩, ⟨("new_item", none), "new_item", "new_item", defArgs s_new_item, defBody s_new_item, defScope s_new_item, [], []⟩, ⟨("swapped", none), "swapped", "swapped", defArgs s_swapped, defBody s_swapped, defScope s_swapped, [], []⟩, ⟨("replaced", none), "replaced", "replaced", defArgs s_replaced, defBody s_replaced, defScope s_replaced, [], []⟩, ⟨("joined", none), "joined", "joined", defArgs s_joined, defBody s_joined, defScope s_joined, [], []⟩, ⟨("called", none), "called", "called", defArgs s_called, defBody s_called, defScope s_called, [], []⟩, ⟨("called_at", none), "called_at", "called_at", defArgs s_called_at, defBody s_called_at, defScope s_called_at, [], []⟩, ⟨("what_becomes", none), "what_becomes", "what_becomes", defArgs s_what_becomes, defBody s_what_becomes, defScope s_what_becomes, [], []⟩, ⟨("walked_on", none), "walked_on", "walked_on", defArgs s_walked_on, defBody s_walked_on, defScope s_walked_on, [], []⟩, ⟨("walked_back", none), "walked_back", "walked_back", defArgs s_walked_back, defBody s_walked_back, defScope s_walked_back, [], []⟩, ⟨("applied", none), "applied", "applied", defArgs s_applied, defBody s_applied, defScope s_applied, [], []⟩]
def dfs_2 : List DefD := [⟨("apply_rules", none), "apply_rules", "apply_rules", defArgs s_apply_rules, defBody s_apply_rules, defScope s_apply_rules, [.adr (dflAt ("apply_rules", none) 0)], []⟩, ⟨("_law_puts", none), "_law_puts", "_law_puts", defArgs s_law_puts, defBody s_law_puts, defScope s_law_puts, [], []⟩, ⟨("_law_twice", none), "_law_twice", "_law_twice", defArgs s_law_twice, defBody s_law_twice, defScope s_law_twice, [], []⟩, ⟨("Glyph", some "__init__"), "__init__", "Glyph.__init__", defArgs s_Glyph, defBody s_Glyph, defScope s_Glyph, [], [("parts", .adr (kwAt "Glyph" "parts")), ("anchors", .adr (kwAt "Glyph" "anchors")), ("mark", .bl false), ("deltas", .adr (kwAt "Glyph" "deltas")), ("hint", .adr (kwAt "Glyph" "hint"))]⟩, ⟨("Rule", some "__init__"), "__init__", "Rule.__init__", defArgs s_Rule, defBody s_Rule, defScope s_Rule, [], [("back", .adr (kwAt "Rule" "back")), ("ahead", .adr (kwAt "Rule" "ahead")), ("out", .adr (kwAt "Rule" "out")), ("calls", .adr (kwAt "Rule" "calls")), ("extra", .int 0)]⟩, ⟨("Lookup", some "__init__"), "__init__", "Lookup.__init__", defArgs s_Lookup, defBody s_Lookup, defScope s_Lookup, [], [("ignore", .bl false)]⟩, ⟨("Font", some "__init__"), "__init__", "Font.__init__", defArgs s_Font, defBody s_Font, defScope s_Font, [], [("chars", .adr (kwAt "Font" "chars")), ("lookups", .adr (kwAt "Font" "lookups")), ("features", .adr (kwAt "Font" "features")), ("axes", .adr (kwAt "Font" "axes")), ("regions", .adr (kwAt "Font" "regions")), ("functions", .adr (kwAt "Font" "functions")), ("presets", .adr (kwAt "Font" "presets"))]⟩]
def dfs : List DefD := dfs_0 ++ (dfs_1 ++ (dfs_2))
def tbs_0 : List Tab := [(fun K => ga K "INSIDE", [PySem.Str.ofString "single", PySem.Str.ofString "multiple", PySem.Str.ofString "ligature", PySem.Str.ofString "chain", PySem.Str.ofString "reverse", PySem.Str.ofString "pair", PySem.Str.ofString "cursive", PySem.Str.ofString "marks"])]
def tbs : List Tab := tbs_0
def loo_0 : List PySem.Str := [PySem.Str.ofString "__name__", PySem.Str.ofString "FleuronError", PySem.Str.ofString "InvalidFont", PySem.Str.ofString "TooLarge", PySem.Str.ofString "MOST_ITEMS", PySem.Str.ofString "REPLACING", PySem.Str.ofString "sees", PySem.Str.ofString "match", PySem.Str.ofString "matched_items", PySem.Str.ofString "seen_items", PySem.Str.ofString "are_in_sets", PySem.Str.ofString "apply_rules", PySem.Str.ofString "applied", PySem.Str.ofString "walked_on", PySem.Str.ofString "walked_back", PySem.Str.ofString "what_becomes", PySem.Str.ofString "replaced", PySem.Str.ofString "swapped", PySem.Str.ofString "joined", PySem.Str.ofString "called", PySem.Str.ofString "called_at", PySem.Str.ofString "new_item", PySem.Str.ofString "DEEPEST", PySem.Str.ofString "depths_of", PySem.Str.ofString "has_parts_in", PySem.Str.ofString "LETTERS", PySem.Str.ofString "is_row_of_letters", PySem.Str.ofString "MOST_CONTOURS", PySem.Str.ofString "LEAST_OF_CONTOUR", PySem.Str.ofString "MOST_POINTS", PySem.Str.ofString "FARTHEST", PySem.Str.ofString "is_proper", PySem.Str.ofString "count_points", PySem.Str.ofString "tuples_of", PySem.Str.ofString "is_rising"]
def loo_1 : List PySem.Str := [PySem.Str.ofString "MOST_RULES", PySem.Str.ofString "MOST_AROUND", PySem.Str.ofString "MOST_OUT", PySem.Str.ofString "INSIDE", PySem.Str.ofString "WITH_CONTEXT", PySem.Str.ofString "WITH_OUT", PySem.Str.ofString "lookup_reason", PySem.Str.ofString "sets_reason", PySem.Str.ofString "is_set", PySem.Str.ofString "out_reason", PySem.Str.ofString "calls_reason", PySem.Str.ofString "extra_reason", PySem.Str.ofString "WORDS", PySem.Str.ofString "LEAST_NUMBER", PySem.Str.ofString "GREATEST_NUMBER", PySem.Str.ofString "is_instruction", PySem.Str.ofString "ANCHOR_KINDS", PySem.Str.ofString "LONGEST_FEATURE", PySem.Str.ofString "first_fault", PySem.Str.ofString "placed", PySem.Str.ofString "first_glyph_fault", PySem.Str.ofString "first_lookup_fault", PySem.Str.ofString "is_coordinate", PySem.Str.ofString "many_reason", PySem.Str.ofString "unit_reason", PySem.Str.ofString "glyph_reason", PySem.Str.ofString "is_part", PySem.Str.ofString "is_anchor", PySem.Str.ofString "is_delta", PySem.Str.ofString "parts_reason", PySem.Str.ofString "chars_reason", PySem.Str.ofString "features_reason", PySem.Str.ofString "axes_reason", PySem.Str.ofString "regions_reason", PySem.Str.ofString "is_tent"]
def loo_2 : List PySem.Str := [PySem.Str.ofString "functions_reason", PySem.Str.ofString "presets_reason", PySem.Str.ofString "Glyph", PySem.Str.ofString "Rule", PySem.Str.ofString "Lookup", PySem.Str.ofString "Font", PySem.Str.ofString "copied_glyph", PySem.Str.ofString "copied_rule", PySem.Str.ofString "copied_lookup", PySem.Str.ofString "_law_mix", PySem.Str.ofString "_law_numbers", PySem.Str.ofString "_law_take", PySem.Str.ofString "_law_point", PySem.Str.ofString "_law_outline", PySem.Str.ofString "_law_set", PySem.Str.ofString "_law_sets", PySem.Str.ofString "_law_rule", PySem.Str.ofString "_law_lookups", PySem.Str.ofString "_law_font", PySem.Str.ofString "_law_run", PySem.Str.ofString "_law_world", PySem.Str.ofString "_law_puts", PySem.Str.ofString "_law_twice"]
def loo : List PySem.Str := loo_0 ++ (loo_1 ++ (loo_2))
theorem run_f (w : World) : HandSHeadRun.RunEq R qv (hookT pls tps cks dfs tbs) (obT pls tps cks dfs tbs) 20000 loo (w.withFollow "special-get-raises" false) := by
  unfold HandSHeadRun.RunEq
  intro os
  kernel_rfl
theorem run_t (w : World) : HandSHeadRun.RunEq R qv (hookT pls tps cks dfs tbs) (obT pls tps cks dfs tbs) 20000 loo (w.withFollow "special-get-raises" true) := by
  unfold HandSHeadRun.RunEq
  intro os
  kernel_rfl
theorem run (w : World) : HandSHeadRun.RunEq R qv (hookT pls tps cks dfs tbs) (obT pls tps cks dfs tbs) 20000 loo w :=
  PySem.W.byRow2 "special-get-raises" (P := fun w => HandSHeadRun.RunEq R qv (hookT pls tps cks dfs tbs) (obT pls tps cks dfs tbs) 20000 loo w) run_f run_t w
end He2

end K22

set_option Elab.async false
set_option linter.all false
set_option maxRecDepth 100000
set_option maxHeartbeats 4000000
set_option exponentiation.threshold 20000
/-! readings for the checks of a font; fonts in numbers -/
namespace Fl
open PySem PySem.Spec PyProof.Rows L2
section
variable {X : Cx} {K : PySem.W.Frag} {σ : L2.St} {H : Hp} {Q : VK}
theorem peOrT {a b : Expr} {ta tb : TE} {rest : List Expr} {pos : Pos} (e : X.K = K) (h1 : PE X a ta) (h2 : PE X (.BoolOp .Or (b :: rest) pos) tb) : PE X (.BoolOp .Or (a :: b :: rest) pos) (tOrT K ta tb) := by subst e; exact pe_orT h1 h2
theorem g_orT {ta tb : TE} (h : ta σ H fun x H1 => ∃ k, TruV K x H1 k ∧ if k = true then Q x H1 else tb σ H1 Q) : tOrT K ta tb σ H Q := h
theorem g_truN {Z : Bool → Prop} (q : Z false) : ∃ k, TruV K .non H k ∧ Z k := ⟨false, rfl, q⟩
theorem g_chain {r r' : R2} {ta tb tc : TE} (h : ta σ H fun x H1 => tb σ H1 fun y H2 => r x y H2 fun z H3 => ∃ k, z = .bl k ∧ (if k = true then tc σ H3 fun w' H4 => r' y w' H4 Q else Q (.bl false) H3)) : tChain r r' ta tb tc σ H Q := h
theorem g_yesB {p : Prop} [Decidable p] {A B : Prop} (h : p) (q : A) : if decide p = true then A else B := by rw [if_pos (by simpa using h)]; exact q
theorem g_noB {p : Prop} [Decidable p] {A B : Prop} (h : ¬ p) (q : B) : if decide p = true then A else B := by rw [if_neg (by simpa using h)]; exact q
theorem g_nB {p : Prop} [Decidable p] {A B : Prop} (h : p) (q : B) : if (!decide p) = true then A else B := by rw [decide_eq_true h]; simpa using q
theorem g_inT {neg : Bool} {a : Addr} {xs : List V} {x : V} {b : Bool} (h : SqT K H a xs) (f1 : flatV x = true) (f2 : xs.all flatV = true) (e : (if neg = true then !inV x xs else inV x xs) = b) (q : Q (.bl b) H) : rIn K neg x (.ref a) H Q := ⟨a, xs, rfl, .inr h, f1, f2, by rw [e]; exact q⟩
theorem g_tru0n {a : Addr} {xs : List V} {Z : Bool → Prop} (h : SqL K H a xs) (e : xs.length = 0) (q : Z false) : ∃ k, TruV K (.ref a) H k ∧ Z k := by
  cases xs with
  | nil => exact ⟨_, .inl ⟨_, h, rfl⟩, q⟩
  | cons _ _ => cases e
theorem g_asg2 {te : TE} {g : TG} {D : Ends} (h : te σ H fun x H1 => g x σ H1 D.nx) : tAsg te g D σ H := h
theorem g_kd {w : World} {p : Addr} {z : Str} {v : V} (h : KDct K w p z v) (q : Q v H) : rIxD K w (.ref p) (.str z) H Q := ⟨p, z, v, rfl, rfl, h, q⟩
theorem g_neS {x y : Str} (q : Q (.bl (!decide (x = y))) H) : rNe (.str x) (.str y) H Q := ⟨rfl, by
  have e : decide (V.str x = V.str y) = decide (x = y) := by simp
  rw [e]
  exact q⟩
theorem g_nkd {d : Addr} {z : Str} {Z : VK} {u0 : Value} (h : PySem.W.nsIn K d z = some (some u0)) (q : Z (V.bl false) H) : ∃ z' r, V.str z = V.str z' ∧ V.ref d = V.ref d ∧ PySem.W.nsIn K d z' = some r ∧ Z (V.bl (!r.isSome)) H := ⟨z, _, rfl, rfl, h, q⟩
theorem g_noNB {p : Prop} [Decidable p] {A B : Prop} (h : ¬ p) (q : A) : if (!decide p) = true then A else B := by rw [decide_eq_false h]; simpa using q
theorem piEnum {e : Expr} {ta : TA} {p pos tpos : Pos} {elts : List Expr} {kk : Nat} (eK : X.K = K) (h1 : Gl X "enumerate") (h2 : X.mg "enumerate" = none) (h3 : PA X [e] ta) (h4 : starEach [e] X.env = [(false, eval e X.env)] := by rfl) :
    PI X (.Tuple elts kk tpos) (.Call (.Name "enumerate" p) [e] [] pos) (iEnum K ta) := by subst eK; exact pi_enum h1 h2 h3 h4
theorem g_enum {ta : TE} {R : It → Hp → Prop} (h : ta σ H fun x H1 => ∃ a xs, [x] = [V.ref a] ∧ SqL K H1 a xs ∧ R (Ite K a) H1) : iEnum K (tCons ta tNil) σ H R := h
theorem g_enE {a : Addr} {xs : List V} {Z : Addr → Prop} (h : SqL K H a xs) (q : Z a) : ∃ c zs, [V.ref a] = [V.ref c] ∧ SqL K H c zs ∧ Z c := ⟨a, xs, rfl, h, q⟩
theorem forK_e {a : Addr} {xs : List V} {g : TG} {tb : TS} {D : Ends} (Pv : Nat → L2.St → Hp → Prop) (h0 : Pv 0 σ H) (hl : ∀ i σ H, i ≤ xs.length → Pv i σ H → SqL K H a xs)
    (hs : ∀ (i : Nat) (x : V) (T : Addr) (σ : L2.St) (H : Hp), xs[i]? = some x → Pv i σ H → H T = none → g (.ref T) σ (upd H T (.tup [.int (i : Int), x])) fun σ2 H2 => tb { D with nx := Pv (i + 1), ct := Pv (i + 1), bk := D.nx } σ2 H2) (hd : ∀ σ H, Pv xs.length σ H → D.nx σ H) : forK (Ite K a) g tb D σ H := by
  refine ⟨fun i m σ H => m = xs.length - i ∧ i ≤ xs.length ∧ Pv i σ H, ⟨xs.length, rfl, Nat.zero_le _, h0⟩, fun i m σ H h => ?_⟩
  obtain ⟨rfl, hi, p⟩ := h
  have q := hl i σ H hi p
  by_cases hlt : i < xs.length
  · refine .inr ⟨⟨xs, xs[i], q, by simp [hlt]⟩, Pv (i + 1), fun σ' H' p' => ⟨xs.length - (i + 1), by omega, rfl, hlt, p'⟩, fun x H' y => ?_⟩
    obtain ⟨T, z, rfl, hT, rfl, y⟩ := y
    exact hs i z T σ H (y xs q) p hT
  · have e : i = xs.length := by omega
    subst e
    exact .inl ⟨⟨xs, q, Nat.le_refl _⟩, hd σ H p⟩
theorem clAll (e : X.K = K) (hc : X.calm = true) : CallR X (.builtin "all") (rAll K) := by subst e; exact cr_all hc
theorem g_allL {a : Addr} {bs : List Bool} (h : SqL K H a (bs.map V.bl)) (q : Q (.bl (bs.all id)) H) : rAll K [.ref a] H Q := ⟨a, bs, rfl, h, q⟩
def rKd (d : Addr) (K : PySem.W.Frag) (neg : Bool) : R2 := fun x y H Q => ∃ z r, x = V.str z ∧ y = V.ref d ∧ PySem.W.nsIn K d z = some r ∧ Q (V.bl (if neg then !r.isSome else r.isSome)) H
end
/-! ### objects taken apart -/
section
variable {S : List Addr} {H : Hp} {v : V} {c : Cs}
theorem glE {g : GlR} (h : Dq S H v (glD c g)) : ∃ a dx v1 v2 v3 v4 v5 v6 v7, v = .ref a ∧ a ∉ S ∧ H a = some (.ins c.G dx [("advance", v1), ("outline", v2), ("parts", v3), ("anchors", v4), ("mark", v5), ("deltas", v6), ("hint", v7)]) ∧
    Dq S H v1 g.adv ∧ Dq S H v2 (ouD3 g.outl) ∧ Dq S H v3 (ltD g.parts) ∧ Dq S H v4 (ltD g.anch) ∧ Dq S H v5 g.mark ∧ Dq S H v6 (ltD g.deltas) ∧ Dq S H v7 (ltD g.hint) := by
  obtain ⟨a, dx, fs, rfl, ha, hA, hN⟩ := h.insE
  obtain ⟨v1, fs, rfl, h1, hN⟩ := hN.consE
  obtain ⟨v2, fs, rfl, h2, hN⟩ := hN.consE
  obtain ⟨v3, fs, rfl, h3, hN⟩ := hN.consE
  obtain ⟨v4, fs, rfl, h4, hN⟩ := hN.consE
  obtain ⟨v5, fs, rfl, h5, hN⟩ := hN.consE
  obtain ⟨v6, fs, rfl, h6, hN⟩ := hN.consE
  obtain ⟨v7, fs, rfl, h7, hN⟩ := hN.consE
  cases hN.nilE
  exact ⟨a, dx, v1, v2, v3, v4, v5, v6, v7, rfl, ha, hA, h1, h2, h3, h4, h5, h6, h7⟩
theorem ruE {C : Addr} {r : RuR} (h : Dq S H v (insD C r.F)) : ∃ a dx v1 v2 v3 v4 v5 v6, v = .ref a ∧ a ∉ S ∧ H a = some (.ins C dx [("inside", v1), ("back", v2), ("ahead", v3), ("out", v4), ("calls", v5), ("extra", v6)]) ∧
    Dq S H v1 (llD r.inside) ∧ Dq S H v2 (llD r.back) ∧ Dq S H v3 (llD r.ahead) ∧ Dq S H v4 (.list r.out) ∧ Dq S H v5 (ltD r.calls) ∧ Dq S H v6 r.extra := by
  obtain ⟨a, dx, fs, rfl, ha, hA, hN⟩ := h.insE
  obtain ⟨v1, fs, rfl, h1, hN⟩ := hN.consE
  obtain ⟨v2, fs, rfl, h2, hN⟩ := hN.consE
  obtain ⟨v3, fs, rfl, h3, hN⟩ := hN.consE
  obtain ⟨v4, fs, rfl, h4, hN⟩ := hN.consE
  obtain ⟨v5, fs, rfl, h5, hN⟩ := hN.consE
  obtain ⟨v6, fs, rfl, h6, hN⟩ := hN.consE
  cases hN.nilE
  exact ⟨a, dx, v1, v2, v3, v4, v5, v6, rfl, ha, hA, h1, h2, h3, h4, h5, h6⟩
theorem lkE {k : LkR} (h : Dq S H v (lkD c k)) : ∃ a dx v1 v2 v3, v = .ref a ∧ a ∉ S ∧ H a = some (.ins c.L dx [("kind", v1), ("rules", v2), ("ignore", v3)]) ∧
    Dq S H v1 k.kind ∧ Dq S H v2 (.list (k.rules.map fun r => insD c.R r.F)) ∧ Dq S H v3 k.ign := by
  obtain ⟨a, dx, fs, rfl, ha, hA, hN⟩ := h.insE
  obtain ⟨v1, fs, rfl, h1, hN⟩ := hN.consE
  obtain ⟨v2, fs, rfl, h2, hN⟩ := hN.consE
  obtain ⟨v3, fs, rfl, h3, hN⟩ := hN.consE
  cases hN.nilE
  exact ⟨a, dx, v1, v2, v3, rfl, ha, hA, h1, h2, h3⟩
theorem foE {f : FoR} (h : Dq S H v (foD c f)) : ∃ a dx v1 v2 v3 v4 v5 v6 v7 v8 v9, v = .ref a ∧ a ∉ S ∧ H a = some (.ins c.F dx [("unit", v1), ("glyphs", v2), ("chars", v3), ("lookups", v4), ("features", v5), ("axes", v6), ("regions", v7), ("functions", v8), ("presets", v9)]) ∧
    Dq S H v1 f.unit ∧ Dq S H v2 (.list (f.glyphs.map (glD c))) ∧ Dq S H v3 (ltD f.chars) ∧ Dq S H v4 (.list (f.lookups.map (lkD c))) ∧ Dq S H v5 (.list (f.features.map feD)) ∧ Dq S H v6 (ltD f.axes) ∧ Dq S H v7 (ouD3 f.regions) ∧ Dq S H v8 (ouD3 f.functions) ∧ Dq S H v9 (.list f.presets) := by
  obtain ⟨a, dx, fs, rfl, ha, hA, hN⟩ := h.insE
  obtain ⟨v1, fs, rfl, h1, hN⟩ := hN.consE
  obtain ⟨v2, fs, rfl, h2, hN⟩ := hN.consE
  obtain ⟨v3, fs, rfl, h3, hN⟩ := hN.consE
  obtain ⟨v4, fs, rfl, h4, hN⟩ := hN.consE
  obtain ⟨v5, fs, rfl, h5, hN⟩ := hN.consE
  obtain ⟨v6, fs, rfl, h6, hN⟩ := hN.consE
  obtain ⟨v7, fs, rfl, h7, hN⟩ := hN.consE
  obtain ⟨v8, fs, rfl, h8, hN⟩ := hN.consE
  obtain ⟨v9, fs, rfl, h9, hN⟩ := hN.consE
  cases hN.nilE
  exact ⟨a, dx, v1, v2, v3, v4, v5, v6, v7, v8, v9, rfl, ha, hA, h1, h2, h3, h4, h5, h6, h7, h8, h9⟩
/-- a list whose length alone matters -/
theorem lstN {f : α → PyData} {L : List α} (h : Dq S H v (.list (L.map f))) : ∃ a xs, v = .ref a ∧ H a = some (.lst xs) ∧ xs.length = L.length ∧ DqA S H xs (L.map f) := by
  obtain ⟨a, xs, rfl, _, q, r⟩ := h.lstE
  exact ⟨a, xs, rfl, q, by rw [r.len, List.length_map], r⟩
end
/-! ### rules and lookups in numbers -/
def iD (l : List Int) : List PyData := l.map .int
structure RuV where
  inside : List (List Int)
  back : List (List Int)
  ahead : List (List Int)
  out : List Int
  calls : List (Int × Int)
structure LkV where
  kind : Str
  rules : List RuV
  ign : Bool
structure GlV where
  adv : Int
  mark : Bool
def RuV.R (r : RuV) : RuR := ⟨r.inside.map iD, r.back.map iD, r.ahead.map iD, iD r.out, r.calls.map fun p => [.int p.1, .int p.2], .int 0⟩
def LkV.R (k : LkV) : LkR := ⟨.str k.kind, k.rules.map RuV.R, .bool k.ign⟩
def GlV.R (g : GlV) : GlR := ⟨.int g.adv, [], [], [], .bool g.mark, [], []⟩
structure FoV where
  glyphs : List GlV
  lks : List LkV
def FoV.R (f : FoV) : FoR := ⟨.int 100, f.glyphs.map GlV.R, [], f.lks.map LkV.R, [], [], [], [], []⟩
/-- the number before the i-th -/
def prv (l : List Int) : Nat → Int
  | 0 => -1
  | i + 1 => (l[i]?).getD (-1)
/-- a set of glyphs of a font of n glyphs -/
structure IsSet (n : Nat) (l : List Int) : Prop where
  ne : l ≠ []
  up : ∀ (i : Nat) g, l[i]? = some g → prv l i < g ∧ g < n
theorem IsSet.len {n : Nat} {l : List Int} (h : IsSet n l) : l.length ≤ n := by
  have : ∀ i, i ≤ l.length → (i : Int) - 1 ≤ prv l i := by
    intro i
    induction i with
    | zero => intro _; simp [prv]
    | succ i ih =>
      intro hi
      have h1 := (h.up i _ (List.getElem?_eq_getElem (by omega))).1
      have h2 := ih (by omega)
      have e : prv l (i + 1) = l[i]'(by omega) := by simp [prv, List.getElem?_eq_getElem (show i < l.length by omega)]
      omega
  have h1 := this l.length (Nat.le_refl _)
  cases hl : l.length with
  | zero => omega
  | succ m =>
    rw [hl] at h1
    have h2 := (h.up m _ (List.getElem?_eq_getElem (by omega))).2
    have e : prv l (m + 1) = l[m]'(by omega) := by simp [prv, List.getElem?_eq_getElem (show m < l.length by omega)]
    omega
/-- a font of such parts, as the laws make it -/
def kindsR : List Str := ["single", "multiple", "ligature", "chain", "reverse"]
structure RuV.Ok (n : Nat) (ks : List Str) (kind : Str) (r : RuV) : Prop where
  i : (kind = "single" ∨ kind = "multiple" ∨ kind = "reverse") → r.inside.length = 1
  i2 : kind = "ligature" → 2 ≤ r.inside.length
  i3 : 1 ≤ r.inside.length ∧ r.inside.length ≤ 4
  b : r.back.length ≤ 3
  a : r.ahead.length ≤ 3
  ba : ¬ (kind = "chain" ∨ kind = "reverse") → r.back = [] ∧ r.ahead = []
  s : ∀ c, c ∈ r.inside ++ r.back ++ r.ahead → IsSet n c
  o : r.out.length ≤ 8
  og : ∀ g, g ∈ r.out → 0 ≤ g ∧ g < n
  oc : kind = "chain" → r.out = []
  os : (kind = "single" ∨ kind = "reverse") → ∀ l, r.inside[0]? = some l → r.out.length = l.length
  ol : kind = "ligature" → r.out.length = 1
  c : kind ≠ "chain" → r.calls = []
  cu : ∀ (i : Nat) p, r.calls[i]? = some p → prv (r.calls.map Prod.fst) i < p.1 ∧ p.1 < r.inside.length ∧ 0 ≤ p.2 ∧ ∃ k, ks[p.2.toNat]? = some k ∧ (k = "single" ∨ k = "multiple")
structure LkV.Ok (n : Nat) (ks : List Str) (x : LkV) : Prop where
  k : x.kind ∈ kindsR
  r : x.rules.length ≤ 12
  ro : ∀ r, r ∈ x.rules → RuV.Ok n ks x.kind r
structure FoV.Ok (f : FoV) : Prop where
  g : 1 ≤ f.glyphs.length ∧ f.glyphs.length ≤ 60
  ga : ∀ g, g ∈ f.glyphs → 0 ≤ g.adv ∧ g.adv ≤ 16384
  l : f.lks.length ≤ 20
  lo : ∀ k, k ∈ f.lks → k.Ok f.glyphs.length (f.lks.map LkV.kind)
theorem RuV.R_in (r : RuV) : llD (r.R.inside ++ r.R.back ++ r.R.ahead) = .list ((r.inside ++ r.back ++ r.ahead).map fun l => .list (iD l)) := by
  unfold llD RuV.R
  simp only [← List.map_append, List.map_map]
  rfl
theorem truesL {α : Type} {S : List Addr} {H : Hp} : ∀ {L : List α} {vs : List V}, DqA S H vs (L.map fun _ => PyData.bool true) → vs = (L.map fun _ => true).map V.bl
  | [], _, h => by cases h; rfl
  | _ :: L, _, .cons h r => by
    cases h.blE
    rw [truesL r]
    rfl
theorem all_trues {α : Type} : ∀ {L : List α}, (L.map fun _ => true).all id = true
  | [] => rfl
  | _ :: L => by simp
theorem allD {α : Type} {K : PySem.W.Frag} {S : List Addr} {H : Hp} {v : V} {L : List α} {Q : VK} (h : Dq S H v (.list (L.map fun _ => PyData.bool true))) (q : Q (.bl true) H) : rAll K [v] H Q := by
  obtain ⟨a, xs, rfl, _, hx, hA⟩ := h.lstE
  obtain rfl := truesL hA
  refine g_allL (SqL.of hx) ?_
  rw [all_trues]
  exact q
structure FoK (f : FoR) (ks : List Str) : Prop where
  g : f.glyphs.length < 1000
  l : f.lookups.length < 1000
  k : ∀ (i : Nat) k, ks[i]? = some k → ∃ lk, f.lookups[i]? = some lk ∧ lk.kind = .str k
theorem boolsL {α : Type} {p : α → Bool} {S : List Addr} {H : Hp} : ∀ {L : List α} {vs : List V}, DqA S H vs (L.map fun x => PyData.bool (p x)) → vs = (L.map p).map V.bl
  | [], _, h => by cases h; rfl
  | _ :: L, _, .cons h r => by
    cases h.blE
    rw [boolsL r]
    rfl
theorem lcNil {S : List Addr} {H1 : Hp} {K : PySem.W.Frag} {g : TG} {tt : TT} {te : TE} {vs : List Nat} {σ : L2.St} {Q : VK} {a : Addr} (hS : Al S H1) (ha : Dq S H1 (.ref a) (.list [])) (q : ∀ D H, Same H1 H → Dq S H (.ref D) (.list []) → Q (.ref D) H) : lcK (Itl K a) g tt te vs σ H1 Q :=
  lcL (S := S) (es := []) (fun _ => none) hS ha (by decide) (fun D i x e H hD he => by simp at he) (fun D H s hD h => q D H s h)
theorem allE {K : PySem.W.Frag} {S : List Addr} {H : Hp} {v : V} {Q : VK} (h : Dq S H v (.list [])) (q : Q (.bl true) H) : rAll K [v] H Q := allD (L := ([] : List Unit)) h q
theorem no_has {P : Program} {w : World} {K : PySem.W.Frag} {mg : Str → Option Value} {base : Heap} {x : Str} {st : Stmt} {N ps : List Str} (D : DefIn K mg x st) (S : FnScope N ps (defScope st))
    (hb : ∀ (kV doc pm : Value) (an : Option Addr) (cdv ct : Value) (us : List Value), us.length = ps.length → bindArgs (PySem.W.fnOf x x (defArgs st) (defBody st) (defScope st) .none kV doc pm an cdv ct) ⟨us, []⟩ = pure (ps.zip us)) : Has P w K mg base 1 x ps (fun _ _ _ _ => False) :=
  has_of D S hb (fun _ _ _ _ h => h.elim) (fun _ _ _ _ _ _ _ _ _ _ h => h.elim)
/-- the dict of depths of glyphs without parts -/
def kv0 (n : Nat) : List (Key × V) := (List.range n).map fun k : Nat => (.inl (k : Int), .int 0)
theorem kv0_succ (n : Nat) : kv0 (n + 1) = kv0 n ++ [(.inl (n : Int), .int 0)] := by
  unfold kv0
  rw [List.range_succ, List.map_append]
  rfl
theorem kv0_len (n : Nat) : (kv0 n).length = n := by unfold kv0; simp
theorem kv0_none {n i : Nat} (h : n ≤ i) : valV (kv0 n) (.inl (i : Int)) = none := by
  unfold valV kv0
  rw [Option.map_eq_none_iff, List.find?_eq_none]
  intro x hx
  obtain ⟨k, hk, rfl⟩ := List.mem_map.mp hx
  have := List.mem_range.mp hk
  simp
  omega
theorem kv0_some {n i : Nat} (h : i < n) : ∃ v, valV (kv0 n) (.inl (i : Int)) = some v := by
  cases e : valV (kv0 n) (.inl (i : Int)) with
  | some v => exact ⟨v, rfl⟩
  | none =>
    exfalso
    unfold valV kv0 at e
    rw [Option.map_eq_none_iff, List.find?_eq_none] at e
    have := e (.inl (i : Int), .int 0) (List.mem_map.mpr ⟨i, List.mem_range.mpr h, rfl⟩)
    simp at this
theorem g_tB {t : TE} {σ : L2.St} {H : Hp} {Q : Bool → Hp → Prop} (h : t σ H fun x H1 => ∃ c, x = .bl c ∧ Q c H1) : tB t σ H Q := h
theorem g_dn {ty td : TE} {σ : L2.St} {H : Hp} {Q : VK} (h : ty σ H fun y H1 => td σ H1 fun x H2 => ∃ a o, x = .ref a ∧ DGet H2 a y o ∧ Q (.bl (!o.isSome)) H2) : tDNotIn ty td σ H Q := h
theorem g_dp {ty td tv : TE} {D : Ends} {σ : L2.St} {H : Hp} (h : tv σ H fun v H1 => td σ H1 fun x H2 => ty σ H2 fun y H3 => ∃ a H4, x = V.ref a ∧ DPut H3 a y v H4 ∧ D.nx σ H4) : sDPut td ty tv D σ H := h
theorem fm_some {n : Nat} : (List.range n).filterMap (fun j : Nat => some (PyData.int (j : Int))) = (List.range n).map fun j : Nat => PyData.int (j : Int) := by
  rw [← List.filterMap_eq_map]
  rfl
theorem fm_none {n : Nat} : (List.range n).filterMap (fun _ : Nat => (none : Option PyData)) = [] := by
  rw [List.filterMap_eq_nil_iff]
  intros
  rfl
theorem fnok_weak {P : Program} {w : World} {K : PySem.W.Frag} {mg : Str → Option Value} {base : Heap} {k : Nat} {f : Addr} {fd : FuncData} {ps : List Str} {sp sp' : Sp} (a : FnOk P w K mg base L2.CX0 k f fd ps sp) (h : ∀ vs H Q E, sp' vs H Q E → sp vs H Q E) : FnOk P w K mg base L2.CX0 k f fd ps sp' :=
  ⟨fun vs H Q E z => a.len vs H Q E (h _ _ _ _ z), fun A outer s H args us vs Q E r e b v z => a.run A outer s H args us vs Q E r e b v (h _ _ _ _ z)⟩
/-- a rule, a lookup as the laws hold them -/
def ruT (r : RuV) : PyData := .tuple [llD (r.inside.map iD), llD (r.back.map iD), llD (r.ahead.map iD), .list (iD r.out), ltD (r.calls.map fun p => [.int p.1, .int p.2])]
def lkT (k : LkV) : PyData := .tuple [.str k.kind, .list (k.rules.map ruT), .bool k.ign]
theorem RuV.Rok {n : Nat} {ks : List Str} {kind : Str} {r : RuV} (h : r.Ok n ks kind) (hn : n < 900) : r.R.ok := by
  have hc : r.calls.length < 1000 := by
    have h3 := h.i3.2
    have : ∀ i, i ≤ r.calls.length → (i : Int) - 1 ≤ prv (r.calls.map Prod.fst) i := by
      intro i
      induction i with
      | zero => intro _; simp [prv]
      | succ i ih =>
        intro hi
        have h1 := (h.cu i _ (List.getElem?_eq_getElem (by omega))).1
        have h2 := ih (by omega)
        have e : prv (r.calls.map Prod.fst) (i + 1) = (r.calls[i]'(by omega)).1 := by simp [prv, List.getElem?_eq_getElem (show i < r.calls.length by omega)]
        omega
    have h1 := this r.calls.length (Nat.le_refl _)
    cases hl : r.calls.length with
    | zero => omega
    | succ m =>
      rw [hl] at h1
      have h2 := (h.cu m _ (List.getElem?_eq_getElem (by omega))).2.1
      have e : prv (r.calls.map Prod.fst) (m + 1) = (r.calls[m]'(by omega)).1 := by simp [prv, List.getElem?_eq_getElem (show m < r.calls.length by omega)]
      omega
  have h3 := h.i3
  have hb := h.b
  have ha := h.a
  have ho := h.o
  refine ⟨?_, ?_, ?_, ?_, ?_, by show PyData.int 0 ≠ _; intro e; cases e⟩
  · show (r.inside.map iD).length < 1000; rw [List.length_map]; omega
  · show (r.back.map iD).length < 1000; rw [List.length_map]; omega
  · show (r.ahead.map iD).length < 1000; rw [List.length_map]; omega
  · show (r.out.map PyData.int).length < 1000; rw [List.length_map]; omega
  · show (r.calls.map _).length < 1000; rw [List.length_map]; omega
theorem LkV.Rok {n : Nat} {ks : List Str} {k : LkV} (h : k.Ok n ks) (hn : n < 900) : k.R.ok := by
  have := h.r
  refine ⟨(by intro e; cases e), ?_, fun r m => ?_, (by intro e; cases e)⟩
  · show (k.rules.map RuV.R).length < 1000; rw [List.length_map]; omega
  · obtain ⟨r', m', rfl⟩ := List.mem_map.mp m
    exact RuV.Rok (h.ro r' m') hn
theorem GlV.Rok {g : GlV} : g.R.ok := ⟨(by intro e; cases e), (by intro e; cases e), (show (0 : Nat) < 1000 by decide), (fun c m => nomatch m), (show (0 : Nat) < 1000 by decide), (show (0 : Nat) < 1000 by decide), (show (0 : Nat) < 1000 by decide), (show (0 : Nat) < 1000 by decide)⟩
theorem FoV.Rok {f : FoV} (h : f.Ok) : f.R.ok := by
  have hg := h.g
  have hl := h.l
  refine ⟨(by intro e; cases e), ?_, fun g m => ?_, (show (0 : Nat) < 1000 by decide), ?_, fun k m => ?_, (show (0 : Nat) < 1000 by decide), (show (0 : Nat) < 1000 by decide), (show (0 : Nat) < 1000 by decide), (show (0 : Nat) < 1000 by decide), (show (0 : Nat) < 1000 by decide)⟩
  · show (f.glyphs.map GlV.R).length < 1000; rw [List.length_map]; omega
  · obtain ⟨g', m', rfl⟩ := List.mem_map.mp m
    exact GlV.Rok
  · show (f.lks.map LkV.R).length < 1000; rw [List.length_map]; omega
  · obtain ⟨k', m', rfl⟩ := List.mem_map.mp m
    exact LkV.Rok (h.lo k' m') (by omega)
/-- the table of kinds -/
structure InsK (K : PySem.W.Frag) (w : World) (mg : Str → Option Value) : Prop where
  g : mg "INSIDE" = some (.ref (adr mg "INSIDE"))
  d : ∃ es n, KDict K w (adr mg "INSIDE") es n
  k : ∀ kind, kind ∈ kindsR → ∃ t lo hi, PySem.W.nsIn K (adr mg "INSIDE") kind = some (some (.ref t)) ∧ (∀ H : Hp, SqT K H t [.int lo, .int hi]) ∧ (kind, lo, hi) ∈ ([("single", 1, 1), ("multiple", 1, 1), ("ligature", 2, 4), ("chain", 1, 4), ("reverse", 1, 1)] : List (Str × Int × Int))
end Fl

set_option Elab.async false
set_option linter.all false
set_option maxRecDepth 100000
set_option maxHeartbeats 4000000
set_option exponentiation.threshold 20000
/-! comprehensions that draw; fractions as data; lists taken apart; sorted -/
namespace Fl
open PySem PySem.Spec PyProof.Rows L2
section
variable {S X : List Addr} {H1 : Hp} {K : PySem.W.Frag}
/-- the list D at turn i of a comprehension whose steps change what stands at X and keep I -/
structure GenAt (S X : List Addr) (I : Hp → Prop) (Pr : PyData → Prop) (H1 : Hp) (D : Addr) (i : Nat) (H : Hp) : Prop where
  ex : ∃ (acc : List V) (rs : List PyData), H D = some (.lst acc) ∧ DqA (D :: S) H acc rs ∧ rs.length = i ∧ ∀ r, r ∈ rs → Pr r
  fr : Fr (D :: X) H1 H
  inv : I H
theorem lcG {n : Nat} {lo : Int} {j : Nat} {te : TE} {vs : List Nat} {σ : L2.St} {Q : VK} (X : List Addr) (I : Hp → Prop) (Pr : PyData → Prop) (hS : Al S H1) (hX : ∀ b, b ∈ X → b ∈ S) (hI : I H1) (hz : n < 1000)
    (hA : ∀ H, I H → Al X H) (hP : ∀ D H o, H1 D = none → I H → I (upd H D o))
    (step : ∀ (D : Addr) (i : Nat) (H : Hp), H1 D = none → i < n → Al (D :: S) H → I H →
      ∀ (R : V → Hp → Prop), (∀ y H' r, Fr X H H' → I H' → Dq (D :: S) H' y r → Pr r → R y H') →
      wipe ((wipe σ vs).set j (some (.int (lo + i)))) vs = wipe σ vs ∧ te ((wipe σ vs).set j (some (.int (lo + i)))) H R)
    (q : ∀ (D : Addr) (H : Hp) (rs : List PyData), Fr X H1 H → I H → H1 D = none → Dq S H (.ref D) (.list rs) → rs.length = n → (∀ r, r ∈ rs → Pr r) → Q (.ref D) H) :
    lcK (Itr lo n) (gName j) tYes te vs σ H1 Q := by
  unfold lcK
  intro D hD
  have hDX : D ∉ X := fun m => hS D (hX D m) hD
  refine lc_range (GenAt S X I Pr H1 D) ⟨⟨[], [], upd_same, .nil, rfl, fun _ m => nomatch m⟩, Fr.same (Fl.Same.new hD), hP D H1 _ hD hI⟩ ?_ ?_
  · intro i H hlt h
    obtain ⟨⟨acc, rs, hacc, hd, hl, hp⟩, hf, hi⟩ := h
    have hAl : Al (D :: S) H := .cons (by rw [hacc]; simp) (hS.fr hf fun b m => by
      rcases List.mem_cons.mp m with rfl | m
      · rw [hacc]; simp
      · exact hA H hi b m)
    have st := step D i H hD hlt hAl hi (fun y H4 => ∃ acc, H4 D = some (.lst acc) ∧ acc.length < sizeLine ∧ GenAt S X I Pr H1 D (i + 1) (upd H4 D (.lst (acc ++ [y])))) ?_
    · exact ⟨st.1, st.2⟩
    · intro y H' r f k dq hr
      have f' : Fr (D :: S) H H' := f.mono fun b m => List.mem_cons_of_mem _ (hX b m)
      refine ⟨acc, f D _ hDX hacc, ?_, ⟨acc ++ [y], rs ++ [r], upd_same, ?_, ?_, ?_⟩, ?_, ?_⟩
      · have := hd.len
        have : (1000 : Nat) ≤ sizeLine := by decide
        omega
      · exact ((hd.fr f').app (.one dq)).fr (Fr.upd (by simp))
      · rw [List.length_append, hl]
        rfl
      · intro p m
        rcases List.mem_append.mp m with m | m
        · exact hp p m
        · rw [show p = r by simpa using m]
          exact hr
      · exact (hf.trans (f.mono fun b m => List.mem_cons_of_mem _ m)).trans (Fr.upd (by simp))
      · exact hP D H' _ hD k
  · intro H h
    obtain ⟨⟨acc, rs, hacc, hd, hl, hp⟩, hf, hi⟩ := h
    refine q D H rs (fun b o n e => hf b o (fun m => ?_) e) hi hD (.lst (hS.ni hD) hacc hd.tail) hl hp
    rcases List.mem_cons.mp m with rfl | m
    · rw [hD] at e; cases e
    · exact n m
end
/-! fractions as data -/
def iq (n : Int) : Rat := Rat.divInt n 1
def fqD (x : Rat) : PyData := .tuple [.int x.num, .int (x.den : Int)]
theorem fqE {S : List Addr} {H : Hp} {v : V} {x : Rat} (h : Dq S H v (fqD x)) : ∃ a, v = .ref a ∧ a ∉ S ∧ H a = some (.tup [.int x.num, .int (x.den : Int)]) := by
  obtain ⟨a, xs, rfl, na, hx, hd⟩ := h.tupE
  obtain ⟨_, _, rfl, h1, hd⟩ := hd.consE
  obtain ⟨_, _, rfl, h2, hd⟩ := hd.consE
  cases hd.nilE
  cases h1.intE
  cases h2.intE
  exact ⟨a, rfl, na, hx⟩
theorem fqI {S : List Addr} {H : Hp} {a : Addr} {x : Rat} (n : a ∉ S) (q : H a = some (.tup [.int x.num, .int (x.den : Int)])) : Dq S H (.ref a) (fqD x) := .tup n q (.cons (.int _) (.cons (.int _) .nil))
theorem eqf_app {K : PySem.W.Frag} {a b : Addr} {x y : Rat} {H : Hp} {Q : VK} (h1 : RV K H a x) (h2 : RV K H b y) (q : Q (.bl (decide (x = y))) H) : rEqD K (.ref a) (.ref b) H Q := by
  have d1 : ∀ {a : Addr} {x : Rat}, RV K H a x → Dp K H (.ref a) (.tuple [.int x.num, .int x.den]) := fun h => .tup h (.cons (.int _) (.cons (.int _) .nil))
  refine ⟨_, _, d1 h1, d1 h2, rfl, rfl, ?_⟩
  by_cases e : x = y
  · subst e
    have e2 : PyData.eqv (.tuple [.int x.num, .int x.den]) (.tuple [.int x.num, .int x.den]) = true := SeqAt.eqv_refl _ rfl
    rw [e2]
    simpa using q
  · have e2 : PyData.eqv (.tuple [.int x.num, .int x.den]) (.tuple [.int y.num, .int y.den]) = false := by
      cases hb : PyData.eqv (.tuple [.int x.num, .int x.den]) (.tuple [.int y.num, .int y.den]) with
      | false => rfl
      | true =>
        exfalso
        apply e
        simp [PyData.eqv, PyData.eqvAll] at hb
        exact Rat.ext hb.1 (by omega)
    rw [e2]
    simpa [e] using q
/-! [ratio(n) for n in a tuple of integers] -/
theorem lcT {K : PySem.W.Frag} {H1 : Hp} {a : Addr} {ns : List Int} {j : Nat} {te : TE} {vs : List Nat} {σ : L2.St} {Q : VK} (ha : SqT K H1 a (ns.map V.int)) (hz : ns.length < 1000)
    (step : ∀ (D : Addr) (i : Nat) (n : Int) (H : Hp), H1 D = none → ns[i]? = some n → Same H1 H →
      ∀ (R : V → Hp → Prop), (∀ t H', H t = none → Same H H' → RV K H' t (iq n) → R (.ref t) H') →
      wipe ((wipe σ vs).set j (some (.int n))) vs = wipe σ vs ∧ te ((wipe σ vs).set j (some (.int n))) H R)
    (q : ∀ (D : Addr) (H : Hp) (ts : List Addr), Same H1 H → H D = some (.lst (ts.map V.ref)) → ts.length = ns.length → (∀ (k : Nat) (t : Addr) (n : Int), ts[k]? = some t → ns[k]? = some n → RV K H t (iq n)) → Q (.ref D) H) :
    lcK (Itt K a) (gName j) tYes te vs σ H1 Q := by
  unfold lcK
  intro D hD
  refine lc_tup (xs := ns.map V.int) (fun i H => (∃ ts : List Addr, H D = some (.lst (ts.map V.ref)) ∧ ts.length = i ∧ ∀ (k : Nat) (t : Addr) (n : Int), ts[k]? = some t → ns[k]? = some n → t ≠ D ∧ RV K H t (iq n)) ∧ Fr [D] H1 H) ⟨⟨[], upd_same, rfl, fun k t n h => by simp at h⟩, Fr.same (Fl.Same.new hD)⟩ ?_ ?_ ?_
  · intro i H _ ⟨_, hf⟩
    exact Fl.Same.t (sm_of hD hf) ha
  · intro i x H hx ⟨⟨ts, hts, hl, hr⟩, hf⟩
    have hlt : i < ns.length := by
      have := (List.getElem?_eq_some_iff.mp hx).1
      simpa using this
    rw [List.getElem?_map] at hx
    cases hn : ns[i]? with
    | none => rw [hn] at hx; cases hx
    | some n =>
      rw [hn] at hx
      cases hx
      have st := step D i n H hD hn (sm_of hD hf) (fun y H4 => ∃ acc, H4 D = some (.lst acc) ∧ acc.length < sizeLine ∧ ((∃ ts : List Addr, (upd H4 D (.lst (acc ++ [y]))) D = some (.lst (ts.map V.ref)) ∧ ts.length = i + 1 ∧ ∀ (k : Nat) (t : Addr) (n : Int), ts[k]? = some t → ns[k]? = some n → t ≠ D ∧ RV K (upd H4 D (.lst (acc ++ [y]))) t (iq n)) ∧ Fr [D] H1 (upd H4 D (.lst (acc ++ [y]))))) ?_
      · exact ⟨st.1, st.2⟩
      · intro t H' ht sm rv
        have htD : t ≠ D := fun e => by rw [e, hts] at ht; cases ht
        refine ⟨ts.map V.ref, sm _ _ hts, ?_, ⟨ts ++ [t], ?_, ?_, ?_⟩, ?_⟩
        · have : (1000 : Nat) ≤ sizeLine := by decide
          rw [List.length_map]
          omega
        · rw [upd_same, List.map_append]
          rfl
        · rw [List.length_append, hl]
          rfl
        · intro k u m hk hm
          by_cases hki : k < ts.length
          · rw [List.getElem?_append_left hki] at hk
            obtain ⟨g1, g2⟩ := hr k u m hk hm
            exact ⟨g1, RV.ex1 Ex1.upd g1 (g2.same sm)⟩
          · rw [List.getElem?_append_right (by omega)] at hk
            have hk0 : k - ts.length = 0 := by
              have := (List.getElem?_eq_some_iff.mp hk).1
              simp at this
              omega
            rw [hk0] at hk
            cases hk
            have : k = i := by omega
            rw [this, hn] at hm
            cases hm
            exact ⟨htD, RV.ex1 Ex1.upd htD rv⟩
        · exact (hf.trans (Fr.same sm)).trans (Fr.upd (by simp))
  · intro H ⟨⟨ts, hts, hl, hr⟩, hf⟩
    rw [List.length_map] at hl
    exact q D H ts (sm_of hD hf) hts hl (fun k t n h1 h2 => (hr k t n h1 h2).2)
/-! a, b, .. = a list -/
theorem pgL {X : Cx} {K : PySem.W.Frag} {es : List Expr} {j : Nat} {t : TGs} {n : Nat} {pos : Pos} (e : X.K = K) (hc : X.calm = true) (h : PGs X es t)
    (hn : (assignEach es X.env).length = n := by rfl) (hst : (assignEach es X.env).findIdx? (·.1) = none := by rfl) : PG X (.Tuple es j pos) (gLst K n t) := by subst e; exact pg_lst hc h hn hst
theorem g_glst {K : PySem.W.Frag} {n : Nat} {t : TGs} {a : Addr} {xs : List V} {σ : L2.St} {H : Hp} {Q : L2.St → Hp → Prop} (h : SqL K H a xs) (e : xs.length = n) (q : t xs σ H Q) : gLst K n t (.ref a) σ H Q := ⟨a, xs, rfl, h, e, q⟩
/-! sorted of a few integers -/
theorem clSort {X : Cx} {K : PySem.W.Frag} (e : X.K = K) : CallR X (.builtin "sorted") (rSorted K) := by subst e; exact cr_sorted
theorem g_sort {K : PySem.W.Frag} {a : Addr} {ns : List Int} {H : Hp} {Q : VK} (h : SqL K H a (ns.map V.int)) (hz : ns.length < 64) (q : ∀ (ns' : List Int) (p : Addr), ns'.Perm ns → ns'.Pairwise (· ≤ ·) → H p = none → Q (.ref p) (upd H p (.lst (ns'.map V.int)))) : rSorted K [.ref a] H Q := ⟨a, ns, rfl, h, hz, q⟩
theorem sort3 {ns : List Int} {a b c lo hi : Int} (hp : ns.Perm [a, b, c]) (hs : ns.Pairwise (· ≤ ·)) (ha : lo ≤ a ∧ a ≤ hi) (hb : lo ≤ b ∧ b ≤ hi) (hc : lo ≤ c ∧ c ≤ hi) : ∃ x y z, ns = [x, y, z] ∧ lo ≤ x ∧ x ≤ y ∧ y ≤ z ∧ z ≤ hi := by
  have hl := hp.length_eq
  match ns, hl with
  | [x, y, z], _ =>
    have hx : ∀ v, v ∈ [x, y, z] → lo ≤ v ∧ v ≤ hi := fun v m => by
      have := hp.mem_iff.mp m
      simp at this
      rcases this with rfl | rfl | rfl <;> assumption
    have h1 := hx x (by simp)
    have h3 := hx z (by simp)
    simp at hs
    exact ⟨x, y, z, rfl, h1.1, hs.1.1, hs.2, h3.2⟩
end Fl

set_option Elab.async false
set_option linter.all false
set_option maxRecDepth 100000
set_option maxHeartbeats 4000000
/-! draws: a list of integers, from whose end numbers are taken -/
namespace Fl
open PySem PySem.Spec PyProof.Rows L2
def Dw (d : Addr) (H : Hp) : Prop := ∃ zs : List Int, H d = some (.lst (zs.map V.int)) ∧ zs.length ≤ 10000
theorem Dw.hd {d : Addr} {H : Hp} (h : Dw d H) : H d ≠ none := by
  obtain ⟨zs, e, _⟩ := h
  rw [e]
  simp
theorem Dw.put {d D : Addr} {H : Hp} {o : HO} (h : Dw d H) (n : D ≠ d) : Dw d (upd H D o) := by
  obtain ⟨zs, e, b⟩ := h
  exact ⟨zs, by rw [upd_ne n.symm]; exact e, b⟩
theorem Dw.newH {d p : Addr} {H : Hp} {o : HO} (e : H p = none) (h : Dw d H) : Dw d (upd H p o) := h.put fun k => h.hd (k ▸ e)
theorem Dw.sm {d : Addr} {H H' : Hp} (s : Same H H') (h : Dw d H) : Dw d H' := by
  obtain ⟨zs, e, b⟩ := h
  exact ⟨zs, s _ _ e, b⟩
theorem Dw.fr {d : Addr} {H H' : Hp} {S : List Addr} (s : Fr S H H') (n : d ∉ S) (h : Dw d H) : Dw d H' := by
  obtain ⟨zs, e, b⟩ := h
  exact ⟨zs, s _ _ n e, b⟩
theorem Dw.ned {d p : Addr} {H : Hp} (e : H p = none) (h : Dw d H) : p ≠ d := fun k => h.hd (k ▸ e)
def spDws (K : PySem.W.Frag) : Sp := fun vs H Q _ => ∃ (a : Addr) (ns : List Int), vs = [.ref a] ∧ SqL K H a (ns.map V.int) ∧ ns.length ≤ 63 ∧ ∀ d H', Same H H' → H d = none → Dw d H' → Q (.ref d) H'
theorem dws_app {K : PySem.W.Frag} {a : Addr} {ns : List Int} {H : Hp} {Q : VK} {E : XK} (h : SqL K H a (ns.map V.int)) (hl : ns.length ≤ 63) (q : ∀ d H', Same H H' → H d = none → Dw d H' → Q (.ref d) H') : spDws K [.ref a] H Q E := ⟨a, ns, rfl, h, hl, q⟩
def spTk : Sp := fun vs H Q _ => ∃ (d : Addr) (m : Int), vs = [.ref d, .int m] ∧ Dw d H ∧ 0 < m ∧ ∀ v H', 0 ≤ v → v < m → Dw d H' → On d H H' → Q (.int v) H'
theorem tk_app {d : Addr} {m : Int} {H : Hp} {Q : VK} {E : XK} (h : Dw d H) (hm : 0 < m) (q : ∀ v H', 0 ≤ v → v < m → Dw d H' → On d H H' → Q (.int v) H') : spTk [.ref d, .int m] H Q E := ⟨d, m, rfl, h, hm, q⟩
theorem Same.updN {H H' : Hp} {D : Addr} {o : HO} (hD : H D = none) (h : Same H H') : Same H (upd H' D o) := fun b u e => by
  rw [upd_ne (fun k => by rw [k, hD] at e; cases e)]
  exact h b u e
theorem g_appB {l : Addr} {xs : List V} {y : V} {H : Hp} {Q : VK} (h : H l = some (.lst xs)) (hz : xs.length < 100000) (q : Q .non (upd H l (.lst (xs ++ [y])))) : rAppend (.ref l) [y] H Q := ⟨l, xs, y, rfl, rfl, h, Nat.lt_of_lt_of_le hz (by decide), q⟩
theorem g_bm0 {K : PySem.W.Frag} {T : String} {r : V → List V → Hp → VK → Prop} {to : TE} {σ : L2.St} {H : Hp} {Q : VK} (h : to σ H fun x H1 => tyV K T x H1 ∧ r x [] H1 Q) : tBM0 K T r to σ H Q := h
theorem g_pop {l : Addr} {xs : List V} {y : V} {H : Hp} {Q : VK} (h : H l = some (.lst xs)) (hy : xs[xs.length - 1]? = some y) (q : Q y (upd H l (.lst xs.dropLast))) : rPop (.ref l) [] H Q := ⟨l, xs, y, rfl, rfl, h, hy, q⟩
/-- more integers behind a list of integers -/
theorem ints_snoc {zs : List Int} {z : Int} : zs.map V.int ++ [V.int z] = (zs ++ [z]).map V.int := by simp
theorem picks {α : Type} {f : α → PyData} {Pr : α → Prop} : ∀ {rs : List PyData}, (∀ r, r ∈ rs → ∃ p, r = f p ∧ Pr p) → ∃ ps : List α, rs = ps.map f ∧ ∀ p, p ∈ ps → Pr p
  | [], _ => ⟨[], rfl, fun _ m => nomatch m⟩
  | r :: rs, h => by
    obtain ⟨p, e, hp⟩ := h r (by simp)
    subst e
    obtain ⟨ps, e, hps⟩ := picks (rs := rs) fun r m => h r (by simp [m])
    subst e
    exact ⟨p :: ps, rfl, fun q m => by
      rcases List.mem_cons.mp m with rfl | m
      · exact hp
      · exact hps q m⟩
section
variable {S : List Addr} {H1 : Hp} {K : PySem.W.Frag} {g : TG} {tt : TT} {te : TE} {vs : List Nat} {σ : L2.St} {Q : VK}
/-- [elt for i, x in enumerate(list) if test], nothing changed -/
theorem lcE {a : Addr} {xs : List V} (f : Nat → Option PyData) (hS : Al S H1) (ha : H1 a = some (.lst xs)) (hz : xs.length < 1000)
    (step : ∀ (D : Addr) (i : Nat) (x : V) (T : Addr) (H : Hp), H1 D = none → xs[i]? = some x → Same H1 H → Al (D :: S) H → H T = none →
      ∀ (R : V → Hp → Prop) (N : Hp → Prop), (∀ r y H4, f i = some r → Same (upd H T (.tup [.int (i : Nat), x])) H4 → Dq (D :: S) H4 y r → R y H4) → (f i = none → ∀ H4, Same (upd H T (.tup [.int (i : Nat), x])) H4 → N H4) →
      g (.ref T) (wipe σ vs) (upd H T (.tup [.int (i : Nat), x])) fun σ2 H2 => wipe σ2 vs = wipe σ vs ∧ tt σ2 H2 fun b H3 => if b = true then te σ2 H3 R else N H3)
    (q : ∀ (D : Addr) (H : Hp), Same H1 H → H1 D = none → Dq S H (.ref D) (.list ((List.range xs.length).filterMap f)) → Q (.ref D) H) :
    lcK (Ite K a) g tt te vs σ H1 Q := by
  unfold lcK
  intro D hD
  have hDa : a ≠ D := fun e => by rw [e, hD] at ha; cases ha
  refine lc_it (walk_enum (xs := xs)) (CompAt S H1 D f) (CompAt.zero hD) ?_ ?_ ?_
  · intro i H _ h
    exact SqL.of (h.fr a _ (by simpa using hDa) ha)
  · intro i x H H' hi h ⟨T, y, z, e1, hT, e2, e3, e4⟩
    subst e1 e2
    cases e3
    have hsm : Same H1 H := sm_of hD h.fr
    exact step D i z T H hD e4 hsm (h.al hS hD) hT _ _ (fun r y H4 er s d => h.put (by omega) er ((Fl.Same.new hT).trans s) d) fun en H4 s => (h.same ((Fl.Same.new hT).trans s)).skip en
  · intro H h
    exact q D H (sm_of hD h.fr) hD (h.fin hS hD)
/-- [test for x in dict.values()] -/
theorem lcVT {d : Addr} {od : Obj} {kvs : List (Key × V)} {j : Nat} (p : Nat → Bool) (hd : H1 d = some (.frz od (.dK kvs))) (hz : kvs.length < 1000)
    (step : ∀ (D : Addr) (i : Nat) (k : Key) (x : V) (H : Hp), H1 D = none → kvs[i]? = some (k, x) → Same H1 H → ∀ (R : V → Hp → Prop), R (.bl (p i)) H →
      wipe ((wipe σ vs).set j (some x)) vs = wipe σ vs ∧ te ((wipe σ vs).set j (some x)) H R)
    (q : ∀ (D : Addr) (H : Hp), Same H1 H → H1 D = none → H D = some (.lst (((List.range kvs.length).map p).map V.bl)) → Q (.ref D) H) :
    lcK (Itd d od kvs) (gName j) tYes te vs σ H1 Q := by
  unfold lcK
  intro D hD
  have hDd : d ≠ D := fun e => by rw [e, hD] at hd; cases hd
  refine lc_it (walk_values (kvs := kvs)) (fun i H => H D = some (.lst (((List.range i).map p).map V.bl)) ∧ Fr [D] H1 H) ⟨upd_same, Fr.same (Fl.Same.new hD)⟩ ?_ ?_ ?_
  · intro i H _ h
    exact h.2 d _ (by simpa using hDd) hd
  · intro i x H H' hi ⟨h1, h2⟩ ⟨e1, k, e2⟩
    subst e1
    have st := step D i k x H' hD e2 (sm_of hD h2) (fun y H4 => ∃ acc, H4 D = some (.lst acc) ∧ acc.length < sizeLine ∧ ((upd H4 D (.lst (acc ++ [y]))) D = some (.lst (((List.range (i + 1)).map p).map V.bl)) ∧ Fr [D] H1 (upd H4 D (.lst (acc ++ [y]))))) ?_
    · exact ⟨st.1, st.2⟩
    · refine ⟨_, h1, ?_, ?_, h2.trans (Fr.upd (by simp))⟩
      · have : (1000 : Nat) ≤ sizeLine := by decide
        rw [List.length_map, List.length_map, List.length_range]
        omega
      · rw [upd_same, List.range_succ, List.map_append, List.map_append]
        rfl
  · intro H ⟨h1, h2⟩
    exact q D H (sm_of hD h2) hD h1
end
theorem g_lockE {t : TE} {σ : L2.St} {H : Hp} {Q : VK} {d : Addr} {u : HO} (h : H d = some u) (m : Mut (some u)) (q : ∀ od, t σ (upd H d (.frz od u)) fun v H' => H' d = some (.frz od u) ∧ Q v (upd H' d u)) : tLockE t σ H Q := ⟨d, u, h, m, q⟩
theorem same_lock {H G : Hp} {d : Addr} {u w : HO} (h : H d = some u) (s : Same (upd H d w) G) : Same H (upd G d u) := fun b o e => by
  by_cases n : b = d
  · subst n
    rw [upd_same]
    rw [h] at e
    exact e
  · rw [upd_ne n]
    exact s b o (by rw [upd_ne n]; exact e)
theorem g_ivals {td : TE} {σ : L2.St} {H : Hp} {R : It → Hp → Prop} (h : td σ H fun x H1 => ∃ d o kvs, x = V.ref d ∧ H1 d = some (.frz o (.dK kvs)) ∧ R (Itd d o kvs) H1) : iVals td σ H R := h
theorem ixN_nat {n a : Nat} (h : a < n) : ixN n (a : Int) = some a := by
  unfold ixN
  simp [h]
theorem take_snoc {α : Type} {l : List α} {i : Nat} {x : α} (h : l[i]? = some x) : l.take (i + 1) = l.take i ++ [x] := by
  rw [List.take_add_one, h]
  rfl
end Fl

set_option Elab.async false
set_option linter.all false
set_option maxRecDepth 100000
set_option maxHeartbeats 4000000
/-! xs[a:b] = ys; a list walked from its end -/
namespace Fl
open PySem PySem.Spec PyProof.Rows L2
def gSlc (te : TE) (tl th : TO) : TG := fun v σ H Q => te σ H fun x H1 => tl σ H1 fun l H2 => th σ H2 fun u H3 =>
  ∃ (p b : Addr) (xs ys : List V) (i j : Int), x = .ref p ∧ v = .ref b ∧ l = some i ∧ u = some j ∧ H3 p = some (.lst xs) ∧ H3 b = some (.lst ys) ∧ p ≠ b ∧ 0 ≤ i ∧ i ≤ j ∧ j ≤ xs.length ∧ xs.length + ys.length ≤ sizeLine ∧ Q σ (upd H3 p (.lst (xs.take i.toNat ++ ys ++ xs.drop j.toNat)))
theorem pg_slc {X : Cx} {o : Expr} {lo hi : Option Expr} {te : TE} {tl th : TO} {p2 pos : Pos} (ho : PE X o te) (hl : PO X lo tl) (hu : PO X hi th)
    (ha : ∀ v, assign (.Subscript o (.Slice lo hi none p2) pos) X.env v = (do
      let ov ← holding [v] (eval o X.env)
      let iv ← holding [v, ov] (eval (.Slice lo hi none p2) X.env)
      standAt pos
      holding [v, ov, iv] (setItem ov iv v)
      release [iv, v, ov] []) := by intro _; rfl) : PG X (.Subscript o (.Slice lo hi none p2) pos) (gSlc te tl th) := by
  refine ⟨fun pins s σ H v u Q I r h => ?_⟩
  rw [ha]
  refine wpAny_bind (wpAny_holding (thn (ho.run pins s σ H _ I h) fun ov s1 ⟨x, H1, I1, r1, q1⟩ => ?_))
  refine wpAny_bind (wpAny_holding (wpAny_Slice (thn (hl.run pins s1 σ H1 _ I1 q1) fun vl s2 ⟨l, H2, I2, pl, q2⟩ => thn (hu.run pins s2 σ H2 _ I2 q2) fun vu s3 ⟨w, H3, I3, pu, q3⟩ => ?_)))
  rw [evalPart_none]
  refine wpAny_pure ?_
  have I4 : Inv X pins σ H3 { s3 with heap := s3.heap.push { cls := .type "slice", data := .fields #[vl, vu, .none] } } := I3.kept (t' := s3.toks) fun b ob q => Heap.get?_push_of_some _ q
  obtain ⟨p, b, xs, ys, i, j, rfl, rfl, rfl, rfl, hp, hb, hne, h0, hij, hj, hz, q⟩ := q3
  obtain rfl : ov = Value.ref p := r1
  obtain rfl : u = Value.ref b := r
  refine wpAny_bind (wpAny_standAt (wpAny_bind (wpAny_holding ?_)))
  have ra : L2.RelV (.int i) vl := by
    cases pl with
    | int _ t => exact ⟨t, rfl⟩
  have rc : L2.RelV (.int j) vu := by
    cases pu with
    | int _ t => exact ⟨t, rfl⟩
  exact set_slice I4 hp hb hne (Heap.IsSliceOf.new ..) ra rc h0 hij hj hz fun s' J => wpAny_release ⟨σ, _, J, q⟩
theorem g_slc {te : TE} {tl th : TO} {v : V} {σ : L2.St} {H : Hp} {Q : L2.St → Hp → Prop} (h : te σ H fun x H1 => tl σ H1 fun l H2 => th σ H2 fun u H3 =>
  ∃ (p b : Addr) (xs ys : List V) (i j : Int), x = .ref p ∧ v = .ref b ∧ l = some i ∧ u = some j ∧ H3 p = some (.lst xs) ∧ H3 b = some (.lst ys) ∧ p ≠ b ∧ 0 ≤ i ∧ i ≤ j ∧ j ≤ xs.length ∧ xs.length + ys.length ≤ sizeLine ∧ Q σ (upd H3 p (.lst (xs.take i.toNat ++ ys ++ xs.drop j.toNat)))) : gSlc te tl th v σ H Q := h
theorem g_prt {t : TE} {σ : L2.St} {H : Hp} {Q : Option Int → Hp → Prop} (h : t σ H fun x H1 => ∃ i, x = .int i ∧ Q (some i) H1) : tPart t σ H Q := h
/-- the end of a slice assignment: a to c, plain numbers -/
theorem slc_end {p b : Addr} {xs ys : List V} {i j : Int} {σ : L2.St} {H : Hp} {Q : L2.St → Hp → Prop} (a c : Nat) (hp : H p = some (.lst xs)) (hb : H b = some (.lst ys)) (hne : p ≠ b) (e1 : i = (a : Int)) (e2 : j = (c : Int)) (hac : a ≤ c) (hc : c ≤ xs.length) (hz : xs.length + ys.length ≤ 100000)
    (q : Q σ (upd H p (.lst (xs.take a ++ ys ++ xs.drop c)))) :
    ∃ (p' b' : Addr) (xs' ys' : List V) (i' j' : Int), V.ref p = .ref p' ∧ V.ref b = .ref b' ∧ some i = some i' ∧ some j = some j' ∧ H p' = some (.lst xs') ∧ H b' = some (.lst ys') ∧ p' ≠ b' ∧ 0 ≤ i' ∧ i' ≤ j' ∧ j' ≤ xs'.length ∧ xs'.length + ys'.length ≤ sizeLine ∧ Q σ (upd H p' (.lst (xs'.take i'.toNat ++ ys' ++ xs'.drop j'.toNat))) := by
  subst e1 e2
  refine ⟨p, b, xs, ys, _, _, rfl, rfl, rfl, rfl, hp, hb, hne, by omega, by omega, by omega, Nat.le_trans hz (by decide), ?_⟩
  rw [Int.toNat_natCast, Int.toNat_natCast]
  exact q
theorem g_rev {K : PySem.W.Frag} {ta : TA} {σ : L2.St} {H : Hp} {R : It → Hp → Prop} (h : ta σ H fun vs H1 => ∃ (a : Addr) (xs : List V), vs = [.ref a] ∧ SqL K H1 a xs ∧ R (Itv K a xs.length) H1) : iRev K ta σ H R := h
/-- for x in reversed(xs), xs left as it is: Pv i says how it stands before the turn of the i-th from the front -/
theorem forK_v {K : PySem.W.Frag} {a : Addr} {xs : List V} {g : TG} {tb : TS} {D : Ends} {σ : L2.St} {H : Hp} (Pv : Nat → L2.St → Hp → Prop) (h0 : Pv xs.length σ H) (hl : ∀ i σ H, i ≤ xs.length → Pv i σ H → SqL K H a xs)
    (hs : ∀ i x σ H, xs[i]? = some x → Pv (i + 1) σ H → g x σ H fun σ2 H2 => tb { D with nx := Pv i, ct := Pv i, bk := D.nx } σ2 H2) (hd : ∀ σ H, Pv 0 σ H → D.nx σ H) : forK (Itv K a xs.length) g tb D σ H := by
  refine ⟨fun i m σ H => m = xs.length - i ∧ i ≤ xs.length ∧ Pv (xs.length - i) σ H, ⟨xs.length, by simp, Nat.zero_le _, h0⟩, ?_⟩
  rintro i m σ H ⟨rfl, hi, p⟩
  have q := hl _ σ H (Nat.sub_le _ _) p
  by_cases hlt : i < xs.length
  · obtain ⟨x, hx⟩ : ∃ x, xs[xs.length - 1 - i]? = some x := ⟨_, List.getElem?_eq_getElem (by omega)⟩
    refine .inr ⟨⟨hlt, xs, x, q, hx⟩, Pv (xs.length - (i + 1)), fun σ' H' p' => ⟨xs.length - (i + 1), by omega, rfl, hlt, p'⟩, fun y H' z => ?_⟩
    obtain ⟨e, z⟩ := z
    subst e
    have ey := z xs q
    have e1 : xs.length - 1 - i = xs.length - (i + 1) := by omega
    rw [e1] at ey
    exact hs (xs.length - (i + 1)) y σ _ ey (by rw [show xs.length - (i + 1) + 1 = xs.length - i by omega]; exact p)
  · have e : i = xs.length := by omega
    subst e
    rw [Nat.sub_self] at p
    exact .inl ⟨Nat.le_refl _, hd σ H p⟩
/-! ### step rules for calls with lambdas -/
theorem g_callL2 {mk : Addr → NdefX.NF} {ws : L2.St → List (Option V)} {sp : NdefX.NF → List (Option V) → Sp} {t : TA} {σ : L2.St} {H : Hp} {Q : VK} (h : t σ H fun vs H1 => ∃ c', sp (mk c') (ws σ) vs H1 Q E0) : tCallL2 mk ws sp t σ H Q := h
theorem g_lamV {P : Addr} {mk : Addr → NdefX.NF} {e : Expr} {σ : L2.St} {H : Hp} {Q : VK} (h1 : LamX.TabS H P (mk 0).qual) (h : ∀ (f c' : Addr) (H1 : Hp), Fr [P] H H1 → LamX.TabS H1 P (mk 0).qual → H f = none → LmH H1 f (mk c') e → Q (.ref f) H1) : tLamV P mk e σ H Q := ⟨h1, h⟩
theorem g_callLm {i : Nat} {F : NdefX.NF} {e : Expr} {ws : List (Option V)} {sp : List (Option V) → Sp} {t : TA} {σ : L2.St} {H : Hp} {Q : VK} {g : Addr} (hs : σ[i]? = some (some (.ref g))) (hf : H g = some (LmO g F e)) (h : t σ H fun vs H1 => LmH H1 g F e ∧ sp ws vs H1 Q E0) : tCallLm i F e ws sp t σ H Q := ⟨g, hs, hf, h⟩
end Fl

set_option Elab.async false
set_option linter.all false
set_option maxRecDepth 100000
set_option maxHeartbeats 4000000
set_option exponentiation.threshold 20000
namespace K22
open PySem PySem.Spec PyProof.Rows L2 Fl
-- facts of a place in the heap
local macro_rules | `(tactic| walk_at "fl.ne") => `(tactic| ((with_reducible apply DeckAt.ne'); (focus assumption); walk_at "fl.deck"))
local macro_rules | `(tactic| walk_at "fl.ne") => `(tactic| exact Ne.symm (by assumption))
local macro_rules | `(tactic| walk_at "fl.ne") => `(tactic| assumption)
local macro_rules | `(tactic| walk_at "fl.look") => `(tactic| ((with_reducible apply Fl.Same.t); (focus assumption); walk_at "fl.look"))
local macro_rules | `(tactic| walk_at "fl.look") => `(tactic| ((with_reducible apply Same.seq); (focus assumption); walk_at "fl.look"))
local macro_rules | `(tactic| walk_at "fl.look") => `(tactic| ((with_reducible apply Ex1.t); (focus assumption); (focus walk_at "fl.ne"); walk_at "fl.look"))
local macro_rules | `(tactic| walk_at "fl.look") => `(tactic| ((with_reducible apply Ex1.l); (focus assumption); (focus walk_at "fl.ne"); walk_at "fl.look"))
local macro_rules | `(tactic| walk_at "fl.look") => `(tactic| ((with_reducible apply Fl.Same.t); (focus exact Fl.Same.new (by assumption)); walk_at "fl.look"))
local macro_rules | `(tactic| walk_at "fl.look") => `(tactic| ((with_reducible apply Same.seq); (focus exact Fl.Same.new (by assumption)); walk_at "fl.look"))
local macro_rules | `(tactic| walk_at "fl.look") => `(tactic| ((with_reducible apply Ex1.t); (focus with_reducible exact Ex1.upd); (focus walk_at "fl.ne"); walk_at "fl.look"))
local macro_rules | `(tactic| walk_at "fl.look") => `(tactic| ((with_reducible apply Ex1.l); (focus with_reducible exact Ex1.upd); (focus walk_at "fl.ne"); walk_at "fl.look"))
local macro_rules | `(tactic| walk_at "fl.look") => `(tactic| ((with_reducible apply SqT.of); assumption))
local macro_rules | `(tactic| walk_at "fl.look") => `(tactic| ((with_reducible apply SqL.of); assumption))
local macro_rules | `(tactic| walk_at "fl.look") => `(tactic| (with_reducible exact SqT.of upd_same))
local macro_rules | `(tactic| walk_at "fl.look") => `(tactic| (with_reducible exact SqL.of upd_same))
local macro_rules | `(tactic| walk_at "fl.look") => `(tactic| ((with_reducible show RV _ _ _ _); (with_reducible apply RV.same); (focus exact Fl.Same.new (by assumption)); walk_at "fl.look"))
local macro_rules | `(tactic| walk_at "fl.look") => `(tactic| ((with_reducible show RV _ _ _ _); (with_reducible apply RV.same); (focus assumption); walk_at "fl.look"))
local macro_rules | `(tactic| walk_at "fl.look") => `(tactic| ((with_reducible show RV _ _ _ _); (with_reducible apply RV.ex1); (focus assumption); (focus walk_at "fl.ne"); walk_at "fl.look"))
local macro_rules | `(tactic| walk_at "fl.look") => `(tactic| assumption)
-- arithmetic that an operation asks
local macro_rules | `(tactic| walk_at "fl.side") => `(tactic| exact div62 (by first | assumption | decide | omega) (by first | assumption | decide | omega))
local macro_rules | `(tactic| walk_at "fl.side") => `(tactic| exact divS (by first | assumption | omega) (by first | assumption | omega))
local macro_rules | `(tactic| walk_at "fl.side") => `(tactic| exact divW (by first | assumption | omega) (by first | assumption | omega))
local macro_rules | `(tactic| walk_at "fl.side") => `(tactic| exact mulW (by first | assumption | omega) (by first | assumption | omega))
local macro_rules | `(tactic| walk_at "fl.side") => `(tactic| exact Or.inl (by decide))
local macro_rules | `(tactic| walk_at "fl.side") => `(tactic| (refine ⟨?_, ?_, ?_⟩ <;> decide))
local macro_rules | `(tactic| walk_at "fl.side") => `(tactic| exact Or.inr (by decide))
local macro_rules | `(tactic| walk_at "fl.side") => `(tactic| (simp only [List.length_cons, List.length_nil]; omega))
local macro_rules | `(tactic| walk_at "fl.side") => `(tactic| omega)
local macro_rules | `(tactic| walk_at "fl.side") => `(tactic| assumption)
local macro_rules | `(tactic| walk_at "fl.side") => `(tactic| decide)
local macro_rules | `(tactic| walk_at "fl.kit") => `(tactic| first | exact kit_int_int | exact kit_int_bool | exact kit_int_tuple | exact kit_int_str | exact kit_int_list | exact kit_int_dict | exact kit_bool_int | exact kit_bool_bool | exact kit_bool_tuple | exact kit_bool_str | exact kit_bool_list | exact kit_bool_dict | exact kit_tuple_int | exact kit_tuple_bool | exact kit_tuple_tuple | exact kit_tuple_str | exact kit_tuple_list | exact kit_tuple_dict | exact kit_str_int | exact kit_str_bool | exact kit_str_tuple | exact kit_str_str | exact kit_str_list | exact kit_str_dict | exact kit_list_int | exact kit_list_bool | exact kit_list_tuple | exact kit_list_str | exact kit_list_list | exact kit_list_dict | exact kit_NoneType_int | exact kit_NoneType_bool | exact kit_NoneType_tuple | exact kit_NoneType_str | exact kit_NoneType_list | exact kit_NoneType_dict | exact kit_dict_int | exact kit_dict_bool | exact kit_dict_tuple | exact kit_dict_str | exact kit_dict_list | exact kit_dict_dict)
local macro_rules | `(tactic| walk_at "fl.ty") => `(tactic| (apply TyX.base; apply TyOf.lst; assumption))
local macro_rules | `(tactic| walk_at "fl.ty") => `(tactic| (apply TyX.base; apply TyOf.tup; assumption))
local macro_rules | `(tactic| walk_at "fl.ty") => `(tactic| exact .base (.lst upd_same))
local macro_rules | `(tactic| walk_at "fl.ty") => `(tactic| exact .base (.tup upd_same))
local macro_rules | `(tactic| walk_at "fl.ty") => `(tactic| exact .base (.str _))
local macro_rules | `(tactic| walk_at "fl.ty") => `(tactic| exact .base .non)
local macro_rules | `(tactic| walk_at "fl.ty") => `(tactic| exact .base (.bl _))
local macro_rules | `(tactic| walk_at "fl.ty") => `(tactic| exact .base (.int _))
local macro_rules | `(tactic| walk_at "fl.deck") => `(tactic| (refine DeckAt.same ?_ (by assumption); walk_at "fl.deck"))
local macro_rules | `(tactic| walk_at "fl.deck") => `(tactic| (refine DeckAt.same ?_ (Fl.Same.new (by assumption)); walk_at "fl.deck"))
local macro_rules | `(tactic| walk_at "fl.deck") => `(tactic| assumption)
local macro_rules | `(tactic| walk_at "fl.ex1") => `(tactic| (refine Ex1.trans ?_ (Ex1.of (by assumption)); walk_at "fl.ex1"))
local macro_rules | `(tactic| walk_at "fl.ex1") => `(tactic| (refine Ex1.trans ?_ (by assumption); walk_at "fl.ex1"))
local macro_rules | `(tactic| walk_at "fl.ex1") => `(tactic| (refine Ex1.trans ?_ (Ex1.of (Fl.Same.new (by assumption))); walk_at "fl.ex1"))
local macro_rules | `(tactic| walk_at "fl.ex1") => `(tactic| (refine Ex1.trans ?_ Ex1.upd; walk_at "fl.ex1"))
local macro_rules | `(tactic| walk_at "fl.ex1") => `(tactic| exact Ex1.upd)
local macro_rules | `(tactic| walk_at "fl.ex1") => `(tactic| exact Ex1.refl)
local macro_rules | `(tactic| walk_at "fl.ex1") => `(tactic| assumption)
local macro_rules | `(tactic| walk_at "fl.pre") => `(tactic| first | assumption | trivial | exact ne_of_num (by assumption))
local macro_rules | `(tactic| walk_at "fl.szq") => `(tactic| exact szq_div (k := 41) (by decide) (by omega) (by decide))
local macro_rules | `(tactic| walk_at "fl.szq") => `(tactic| ((with_reducible apply Szq.div); (focus walk_at "fl.szq"); (focus walk_at "fl.szq"); (focus walk_at "fl.pre")))
local macro_rules | `(tactic| walk_at "fl.szq") => `(tactic| ((with_reducible apply Szq.mul); (focus walk_at "fl.szq"); (focus walk_at "fl.szq")))
local macro_rules | `(tactic| walk_at "fl.szq") => `(tactic| ((with_reducible apply Szq.sub); (focus walk_at "fl.szq"); (focus walk_at "fl.szq")))
local macro_rules | `(tactic| walk_at "fl.szq") => `(tactic| ((with_reducible apply Szq.add); (focus walk_at "fl.szq"); (focus walk_at "fl.szq")))
local macro_rules | `(tactic| walk_at "fl.szq") => `(tactic| assumption)
local macro_rules | `(tactic| walk_at "fl.md") => `(tactic| first | assumption | ((with_reducible apply Szq.md); (focus walk_at "fl.szq"); decide))
local macro_rules | `(tactic| walk_at "fl.rat") => `(tactic| exact Rat.div_mul_cancel (ne_of_num (by assumption)))
local macro_rules | `(tactic| walk_at "fl.rat") => `(tactic| exact Rat.mul_div_cancel (ne_of_num (by assumption)))
local macro_rules | `(tactic| walk_at "fl.rat") => `(tactic| exact Rat.add_sub_cancel)
local macro_rules | `(tactic| walk_at "fl.rat") => `(tactic| exact Rat.mul_add _ _ _)
local macro_rules | `(tactic| walk_at "fl.rat") => `(tactic| exact Rat.mul_assoc _ _ _)
local macro_rules | `(tactic| walk_at "fl.rat") => `(tactic| exact Rat.add_assoc _ _ _)
local macro_rules | `(tactic| walk_at "fl.rat") => `(tactic| exact Rat.mul_comm _ _)
local macro_rules | `(tactic| walk_at "fl.rat") => `(tactic| exact Rat.add_comm _ _)
local macro_rules | `(tactic| walk_at "fl.rat") => `(tactic| rfl)
-- one step of a reading
local macro_rules | `(tactic| walk_at "fl.s") => `(tactic| ((with_reducible show ∀ (p : Addr), (_ : Option HO) = none → _); intro _ _))
local macro_rules | `(tactic| walk_at "fl.s") => `(tactic| (with_reducible refine g_iteNF ?_))
local macro_rules | `(tactic| walk_at "fl.s") => `(tactic| (with_reducible refine g_iteNT ?_))
local macro_rules | `(tactic| walk_at "fl.s") => `(tactic| (with_reducible refine g_iteF ?_))
local macro_rules | `(tactic| walk_at "fl.s") => `(tactic| (with_reducible refine g_iteT ?_))
local macro_rules | `(tactic| walk_at "fl.s") => `(tactic| (with_reducible refine g_lstN ?_))
local macro_rules | `(tactic| walk_at "fl.s") => `(tactic| (with_reducible refine g_tupN ?_))
local macro_rules | `(tactic| walk_at "fl.s") => `(tactic| (with_reducible refine g_tup2 ?_))
local macro_rules | `(tactic| walk_at "fl.s") => `(tactic| (with_reducible refine g_nil ?_))
local macro_rules | `(tactic| walk_at "fl.s") => `(tactic| (with_reducible refine g_cons ?_))
local macro_rules | `(tactic| walk_at "fl.s") => `(tactic| ((with_reducible apply ne_app); (focus walk_at "fl.look"); (focus walk_at "fl.look"); (focus walk_at "fl.rat")))
local macro_rules | `(tactic| walk_at "fl.s") => `(tactic| ((with_reducible apply nr_app); (focus walk_at "fl.look"); (focus walk_at "fl.md")))
local macro_rules | `(tactic| walk_at "fl.s") => `(tactic| ((with_reducible apply cq_app); (focus walk_at "fl.look"); (focus walk_at "fl.look"); (focus walk_at "fl.md"); (focus walk_at "fl.md")))
local macro_rules | `(tactic| walk_at "fl.s") => `(tactic| ((with_reducible apply bin_app); (focus walk_at "fl.look"); (focus walk_at "fl.look"); (focus walk_at "fl.md"); (focus walk_at "fl.md"); (focus walk_at "fl.pre"); intro _ _ _ _ _))
local macro_rules | `(tactic| walk_at "fl.s") => `(tactic| ((with_reducible show spRatq _ _ _ _ _); (apply ratq_app); (focus walk_at "fl.side"); (focus walk_at "fl.side"); (focus walk_at "fl.side"); intro _ _ _ _ _))
local macro_rules | `(tactic| walk_at "fl.s") => `(tactic| (with_reducible refine g_callD ?_))
local macro_rules | `(tactic| walk_at "fl.s") => `(tactic| (with_reducible refine sameI_app ?_))
local macro_rules | `(tactic| walk_at "fl.s") => `(tactic| (with_reducible refine isint_app ?_))
local macro_rules | `(tactic| walk_at "fl.s") => `(tactic| ((with_reducible apply near2_app); (focus walk_at "fl.look"); (focus assumption); intro _ _ _ _ _))
local macro_rules | `(tactic| walk_at "fl.s") => `(tactic| ((with_reducible apply down2_app); (focus walk_at "fl.look"); (focus assumption); intro _ _ _ _ _ _))
local macro_rules | `(tactic| walk_at "fl.s") => `(tactic| ((with_reducible apply cmp_app); (focus walk_at "fl.look"); (focus walk_at "fl.look"); (focus assumption); (focus assumption)))
local macro_rules | `(tactic| walk_at "fl.s") => `(tactic| ((with_reducible refine fra_app ?_ ?_ ?_ ?_); (focus walk_at "fl.side"); (focus walk_at "fl.side"); (focus walk_at "fl.side"); intro _ _ _ _ _))
local macro_rules | `(tactic| walk_at "fl.s") => `(tactic| ((with_reducible apply deck_app); (focus walk_at "fl.look"); intro _ _ _ _ _))
local macro_rules | `(tactic| walk_at "fl.s") => `(tactic| ((with_reducible refine big_app ?_ ?_); (focus walk_at "fl.deck"); intro _ _ _ _ _ _ _ _ _))
local macro_rules | `(tactic| walk_at "fl.s") => `(tactic| ((with_reducible refine draw_app ?_ ?_ ?_ ?_); (focus walk_at "fl.deck"); (focus walk_at "fl.side"); (focus walk_at "fl.side"); intro _ _ _ _ _ _))
local macro_rules | `(tactic| walk_at "fl.s") => `(tactic| (with_reducible refine g_call ?_))
local macro_rules | `(tactic| walk_at "fl.s") => `(tactic| (with_reducible refine g_drop ?_))
local macro_rules | `(tactic| walk_at "fl.s") => `(tactic| (with_reducible refine g_ipI ?_))
local macro_rules | `(tactic| walk_at "fl.s") => `(tactic| ((with_reducible apply g_aug); (focus rfl)))
local macro_rules | `(tactic| walk_at "fl.s") => `(tactic| (with_reducible refine g_set ?_))
local macro_rules | `(tactic| walk_at "fl.s") => `(tactic| ((with_reducible apply g_setL); (focus first | assumption | exact upd_same); (focus rfl)))
local macro_rules | `(tactic| walk_at "fl.s") => `(tactic| (with_reducible refine g_setS ?_))
local macro_rules | `(tactic| walk_at "fl.s") => `(tactic| (with_reducible refine g_if ?_))
local macro_rules | `(tactic| walk_at "fl.s") => `(tactic| (with_reducible refine g_ret ?_))
local macro_rules | `(tactic| walk_at "fl.s") => `(tactic| (with_reducible refine g_next ?_))
local macro_rules | `(tactic| walk_at "fl.s") => `(tactic| (with_reducible refine g_notV ?_))
local macro_rules | `(tactic| walk_at "fl.s") => `(tactic| (with_reducible refine g_orV ?_))
local macro_rules | `(tactic| walk_at "fl.s") => `(tactic| (with_reducible refine g_andV ?_))
local macro_rules | `(tactic| walk_at "fl.s") => `(tactic| (with_reducible refine g_or ?_))
local macro_rules | `(tactic| walk_at "fl.s") => `(tactic| (with_reducible refine g_and ?_))
local macro_rules | `(tactic| walk_at "fl.s") => `(tactic| (with_reducible refine g_not ?_))
local macro_rules | `(tactic| walk_at "fl.s") => `(tactic| (with_reducible refine g_ex ?_))
local macro_rules | `(tactic| walk_at "fl.s") => `(tactic| (with_reducible refine g_bl ?_))
local macro_rules | `(tactic| walk_at "fl.s") => `(tactic| (with_reducible refine g_B ?_))
local macro_rules | `(tactic| walk_at "fl.s") => `(tactic| (with_reducible refine g_test ?_))
local macro_rules | `(tactic| walk_at "fl.s") => `(tactic| (with_reducible refine g_eqB ?_))
local macro_rules | `(tactic| walk_at "fl.s") => `(tactic| (with_reducible refine g_neI ?_))
local macro_rules | `(tactic| walk_at "fl.s") => `(tactic| (with_reducible refine g_eqI ?_))
local macro_rules | `(tactic| walk_at "fl.s") => `(tactic| ((with_reducible refine g_tup2 ?_)))
local macro_rules | `(tactic| walk_at "fl.s") => `(tactic| ((with_reducible refine g_new ?_ ?_); (focus walk_at "fl.side"); intro _ _))
local macro_rules | `(tactic| walk_at "fl.s") => `(tactic| ((with_reducible apply g_listL); (focus walk_at "fl.look"); intro _ _))
local macro_rules | `(tactic| walk_at "fl.s") => `(tactic| ((with_reducible apply g_isiT); (focus walk_at "fl.ty"); (focus walk_at "fl.kit")))
local macro_rules | `(tactic| walk_at "fl.s") => `(tactic| (with_reducible refine g_gcd ?_))
local macro_rules | `(tactic| walk_at "fl.s") => `(tactic| ((with_reducible apply g_lenT); (focus walk_at "fl.look")))
local macro_rules | `(tactic| walk_at "fl.s") => `(tactic| ((with_reducible apply g_lenL); (focus walk_at "fl.look")))
local macro_rules | `(tactic| walk_at "fl.s") => `(tactic| (with_reducible refine g_min ?_))
local macro_rules | `(tactic| walk_at "fl.s") => `(tactic| (with_reducible refine g_max ?_))
local macro_rules | `(tactic| walk_at "fl.s") => `(tactic| (with_reducible refine g_abs ?_))
local macro_rules | `(tactic| walk_at "fl.s") => `(tactic| (with_reducible refine g_intB ?_))
local macro_rules | `(tactic| walk_at "fl.s") => `(tactic| (with_reducible refine g_int ?_))
local macro_rules | `(tactic| walk_at "fl.s") => `(tactic| (with_reducible refine g_cb2 ?_))
local macro_rules | `(tactic| walk_at "fl.s") => `(tactic| (with_reducible refine g_cb1 ?_))
local macro_rules | `(tactic| walk_at "fl.s") => `(tactic| ((with_reducible apply g_ixT); (focus walk_at "fl.look"); (focus first | assumption | rfl)))
local macro_rules | `(tactic| walk_at "fl.s") => `(tactic| ((with_reducible apply g_ixL); (focus walk_at "fl.look"); (focus first | assumption | rfl)))
local macro_rules | `(tactic| walk_at "fl.s") => `(tactic| (with_reducible refine g_un ?_))
local macro_rules | `(tactic| walk_at "fl.s") => `(tactic| (with_reducible refine g_U ?_))
local macro_rules | `(tactic| walk_at "fl.s") => `(tactic| ((with_reducible apply g_I); (focus walk_at "fl.side")))
local macro_rules | `(tactic| walk_at "fl.s") => `(tactic| (with_reducible refine g_I0 ?_))
local macro_rules | `(tactic| walk_at "fl.s") => `(tactic| (with_reducible refine g_c ?_))
local macro_rules | `(tactic| walk_at "fl.s") => `(tactic| ((with_reducible apply g_var); (focus rfl)))
local macro_rules | `(tactic| walk_at "fl.s") => `(tactic| (with_reducible refine g_op ?_))
local macro_rules | `(tactic| walk_at "fl.s") => `(tactic| (with_reducible refine g_seq ?_))
local macro_rules | `(tactic| walk_at "fl.go") => `(tactic| repeat walk_at "fl.s")
local macro_rules | `(tactic| walk_at "fl.run") => `(tactic| ((repeat walk_at "fl.s"); try (first
  | (refine g_ite (fun _ => ?_) (fun _ => ?_); all_goals walk_at "fl.run")
  | (refine g_iteN (fun _ => ?_) (fun _ => ?_); all_goals walk_at "fl.run"))))

local macro_rules | `(tactic| walk_at "fl.raw") => `(tactic| ((with_reducible apply raw_frd); (focus assumption); (focus walk_at "fl.nd"); walk_at "fl.raw"))
local macro_rules | `(tactic| walk_at "fl.raw") => `(tactic| ((with_reducible apply raw_on); (focus assumption); (focus walk_at "fl.nd"); walk_at "fl.raw"))
local macro_rules | `(tactic| walk_at "fl.raw") => `(tactic| ((with_reducible apply raw_same); (focus assumption); walk_at "fl.raw"))
local macro_rules | `(tactic| walk_at "fl.raw") => `(tactic| ((with_reducible apply raw_new); (focus assumption); walk_at "fl.raw"))
local macro_rules | `(tactic| walk_at "fl.raw") => `(tactic| exact upd_same)
local macro_rules | `(tactic| walk_at "fl.raw") => `(tactic| assumption)
local macro_rules | `(tactic| walk_at "fl.nd") => `(tactic| exact Dk.ned2 (by assumption) (by assumption))
local macro_rules | `(tactic| walk_at "fl.nd") => `(tactic| assumption)
local macro_rules | `(tactic| walk_at "fl.frd") => `(tactic| ((with_reducible apply Fl.Fr.frT); (focus assumption); walk_at "fl.frd"))
local macro_rules | `(tactic| walk_at "fl.frd") => `(tactic| ((with_reducible apply Fl.Fr.smT); (focus assumption); walk_at "fl.frd"))
local macro_rules | `(tactic| walk_at "fl.frd") => `(tactic| ((with_reducible apply Fl.Fr.ond); (focus assumption); walk_at "fl.frd"))
local macro_rules | `(tactic| walk_at "fl.frd") => `(tactic| ((with_reducible apply Fl.Fr.newT); (focus assumption); walk_at "fl.frd"))
local macro_rules | `(tactic| walk_at "fl.frd") => `(tactic| exact Fl.Fr.refl)
local macro_rules | `(tactic| walk_at "fl.frd") => `(tactic| assumption)
local macro_rules | `(tactic| walk_at "fl.lk") => `(tactic| ((with_reducible apply SqT.of); walk_at "fl.raw"))
local macro_rules | `(tactic| walk_at "fl.lk") => `(tactic| ((with_reducible apply SqL.of); walk_at "fl.raw"))
local macro_rules | `(tactic| walk_at "fl.dq") => `(tactic| ((with_reducible apply Dq.frd); (focus assumption); (focus first | assumption | simp); walk_at "fl.dq"))
local macro_rules | `(tactic| walk_at "fl.dq") => `(tactic| ((with_reducible apply Dq.ond); (focus assumption); (focus first | assumption | simp); walk_at "fl.dq"))
local macro_rules | `(tactic| walk_at "fl.dq") => `(tactic| ((with_reducible apply Dq.sm); (focus assumption); walk_at "fl.dq"))
local macro_rules | `(tactic| walk_at "fl.dq") => `(tactic| ((with_reducible apply Dq.newH); (focus assumption); walk_at "fl.dq"))
local macro_rules | `(tactic| walk_at "fl.dq") => `(tactic| exact Dq.non)
local macro_rules | `(tactic| walk_at "fl.dq") => `(tactic| exact Dq.bl _)
local macro_rules | `(tactic| walk_at "fl.dq") => `(tactic| exact Dq.int _)
local macro_rules | `(tactic| walk_at "fl.dq") => `(tactic| assumption)
local macro_rules | `(tactic| walk_at "fl.dqa") => `(tactic| ((with_reducible apply DqA.sm); (focus assumption); walk_at "fl.dqa"))
local macro_rules | `(tactic| walk_at "fl.dqa") => `(tactic| ((with_reducible apply DqA.newH); (focus assumption); walk_at "fl.dqa"))
local macro_rules | `(tactic| walk_at "fl.dqa") => `(tactic| ((with_reducible apply DqA.cons); (focus walk_at "fl.dq"); walk_at "fl.dqa"))
local macro_rules | `(tactic| walk_at "fl.dqa") => `(tactic| exact DqA.nil)
local macro_rules | `(tactic| walk_at "fl.dqa") => `(tactic| assumption)
local macro_rules | `(tactic| walk_at "fl.al") => `(tactic| ((with_reducible apply Al.frd); (focus assumption); (focus assumption); walk_at "fl.al"))
local macro_rules | `(tactic| walk_at "fl.al") => `(tactic| ((with_reducible apply Al.ond); (focus assumption); (focus assumption); walk_at "fl.al"))
local macro_rules | `(tactic| walk_at "fl.al") => `(tactic| ((with_reducible apply Al.sm); (focus assumption); walk_at "fl.al"))
local macro_rules | `(tactic| walk_at "fl.al") => `(tactic| ((with_reducible apply Al.newH); (focus assumption); walk_at "fl.al"))
local macro_rules | `(tactic| walk_at "fl.al") => `(tactic| exact Al.nil)
local macro_rules | `(tactic| walk_at "fl.al") => `(tactic| assumption)
local macro_rules | `(tactic| walk_at "fl.sm") => `(tactic| ((with_reducible apply Fl.Same.sm); (focus assumption); walk_at "fl.sm"))
local macro_rules | `(tactic| walk_at "fl.sm") => `(tactic| ((with_reducible apply Fl.Same.newT); (focus assumption); walk_at "fl.sm"))
local macro_rules | `(tactic| walk_at "fl.sm") => `(tactic| exact L2.Same.refl _)
local macro_rules | `(tactic| walk_at "fl.sm") => `(tactic| assumption)
local macro_rules | `(tactic| walk_at "fl.dk") => `(tactic| ((with_reducible apply Dk.sm); (focus assumption); walk_at "fl.dk"))
local macro_rules | `(tactic| walk_at "fl.dk") => `(tactic| ((with_reducible apply Dk.newH); (focus assumption); walk_at "fl.dk"))
local macro_rules | `(tactic| walk_at "fl.dk") => `(tactic| assumption)
local macro_rules | `(tactic| walk_at "fl.cz") => `(tactic| ((try simp only [List.length_drop, List.length_take, List.length_append, List.length_cons, List.length_nil, List.length_map, List.length_reverse, List.length_dropLast]); omega))
-- readings with plain lookups first, then the older steps
local macro_rules | `(tactic| walk_at "fl.t") => `(tactic| walk_at "fl.s")
local macro_rules | `(tactic| walk_at "fl.t") => `(tactic| ((with_reducible apply g_ez); (focus walk_at "fl.lk"); (focus walk_at "fl.lk")))
local macro_rules | `(tactic| walk_at "fl.t") => `(tactic| ((with_reducible apply g_el); (focus walk_at "fl.lk")))
local macro_rules | `(tactic| walk_at "fl.t") => `(tactic| ((with_reducible apply g_e2); (focus (refine ⟨?_, ?_, ?_, ?_⟩ <;> walk_at "fl.cz"))))
local macro_rules | `(tactic| walk_at "fl.t") => `(tactic| ((with_reducible apply g_e1); (focus walk_at "fl.cz"); (focus walk_at "fl.cz")))
local macro_rules | `(tactic| walk_at "fl.t") => `(tactic| (with_reducible refine g_zip ?_))
local macro_rules | `(tactic| walk_at "fl.t") => `(tactic| (with_reducible refine g_il ?_))
local macro_rules | `(tactic| walk_at "fl.t") => `(tactic| (with_reducible refine g_rng2 ?_))
local macro_rules | `(tactic| walk_at "fl.t") => `(tactic| (with_reducible refine g_rng1 ?_))
local macro_rules | `(tactic| walk_at "fl.t") => `(tactic| (with_reducible refine g_for ?_))
local macro_rules | `(tactic| walk_at "fl.t") => `(tactic| (with_reducible refine g_lc ?_))
local macro_rules | `(tactic| walk_at "fl.t") => `(tactic| ((with_reducible apply g_ext); (focus walk_at "fl.raw"); (focus walk_at "fl.raw"); (focus walk_at "fl.cz")))
local macro_rules | `(tactic| walk_at "fl.t") => `(tactic| ((with_reducible apply g_app); (focus walk_at "fl.raw"); (focus walk_at "fl.cz")))
local macro_rules | `(tactic| walk_at "fl.t") => `(tactic| ((with_reducible apply g_tyL); (focus walk_at "fl.lk")))
local macro_rules | `(tactic| walk_at "fl.t") => `(tactic| (with_reducible refine g_bm ?_))
local macro_rules | `(tactic| walk_at "fl.t") => `(tactic| (with_reducible refine g_gnil ?_))
local macro_rules | `(tactic| walk_at "fl.t") => `(tactic| (with_reducible refine g_gcons ?_))
local macro_rules | `(tactic| walk_at "fl.t") => `(tactic| ((with_reducible apply g_gtup); (focus walk_at "fl.lk"); (focus rfl)))
local macro_rules | `(tactic| walk_at "fl.t") => `(tactic| (with_reducible refine g_yes ?_))
local macro_rules | `(tactic| walk_at "fl.t") => `(tactic| ((with_reducible apply g_tru1); (focus walk_at "fl.lk")))
local macro_rules | `(tactic| walk_at "fl.t") => `(tactic| ((with_reducible apply g_tru0); (focus walk_at "fl.lk")))
local macro_rules | `(tactic| walk_at "fl.t") => `(tactic| (with_reducible refine g_tru ?_))
local macro_rules | `(tactic| walk_at "fl.t") => `(tactic| (with_reducible refine g_nn ?_))
local macro_rules | `(tactic| walk_at "fl.t") => `(tactic| ((with_reducible apply g_sum); (focus walk_at "fl.lk")))
local macro_rules | `(tactic| walk_at "fl.t") => `(tactic| ((with_reducible apply g_maxL); (focus walk_at "fl.lk"); (focus assumption)))
local macro_rules | `(tactic| walk_at "fl.t") => `(tactic| ((with_reducible apply g_minL); (focus walk_at "fl.lk"); (focus assumption)))
local macro_rules | `(tactic| walk_at "fl.t") => `(tactic| (with_reducible refine g_name ?_))
local macro_rules | `(tactic| walk_at "fl.t") => `(tactic| ((with_reducible refine g_sz ?_ ?_); (focus walk_at "fl.cz")))
local macro_rules | `(tactic| walk_at "fl.t") => `(tactic| ((with_reducible apply dk_app); (focus assumption); intro _ _ _ _ _))
local macro_rules | `(tactic| walk_at "fl.t") => `(tactic| ((with_reducible apply dr_app); (focus walk_at "fl.dk"); (focus first | (with_reducible assumption) | omega | walk_at "fl.side"); (focus first | (with_reducible assumption) | omega | walk_at "fl.side"); intro _ _ _ _ _ _))
local macro_rules | `(tactic| walk_at "fl.t") => `(tactic| ((with_reducible apply g_cat); (focus walk_at "fl.raw"); (focus walk_at "fl.raw"); (focus walk_at "fl.cz"); intro _ _))
local macro_rules | `(tactic| walk_at "fl.t") => `(tactic| ((with_reducible apply g_sl2); (focus walk_at "fl.lk"); intro _ _))
local macro_rules | `(tactic| walk_at "fl.t") => `(tactic| ((with_reducible apply g_slTo); (focus walk_at "fl.lk"); intro _ _))
local macro_rules | `(tactic| walk_at "fl.t") => `(tactic| ((with_reducible apply g_slF); (focus walk_at "fl.lk"); intro _ _))
local macro_rules | `(tactic| walk_at "fl.t") => `(tactic| ((with_reducible apply g_slE); (focus walk_at "fl.lk"); intro _ _))
local macro_rules | `(tactic| walk_at "fl.t") => `(tactic| ((with_reducible apply g_slB); (focus walk_at "fl.lk"); intro _ _))
local macro_rules | `(tactic| walk_at "fl.t") => `(tactic| ((with_reducible apply g_slT1); (focus walk_at "fl.lk"); intro _ _))
local macro_rules | `(tactic| walk_at "fl.t") => `(tactic| ((with_reducible apply g_slF1); (focus walk_at "fl.lk"); intro _ _))
local macro_rules | `(tactic| walk_at "fl.t") => `(tactic| (with_reducible refine g_ei ?_))
local macro_rules | `(tactic| walk_at "fl.t") => `(tactic| (with_reducible refine g_nop ?_))
local macro_rules | `(tactic| walk_at "fl.t") => `(tactic| (with_reducible refine g_part ?_))
local macro_rules | `(tactic| walk_at "fl.t") => `(tactic| (with_reducible refine g_sl ?_))
local macro_rules | `(tactic| walk_at "fl.t") => `(tactic| ((with_reducible apply g_listL); (focus walk_at "fl.lk"); intro _ _))
local macro_rules | `(tactic| walk_at "fl.t") => `(tactic| ((with_reducible apply g_lenT); (focus walk_at "fl.lk")))
local macro_rules | `(tactic| walk_at "fl.t") => `(tactic| ((with_reducible apply g_lenL); (focus walk_at "fl.lk")))
local macro_rules | `(tactic| walk_at "fl.t") => `(tactic| ((with_reducible apply g_ixT); (focus walk_at "fl.lk"); (focus first | assumption | rfl)))
local macro_rules | `(tactic| walk_at "fl.t") => `(tactic| ((with_reducible apply g_ixL); (focus walk_at "fl.lk"); (focus first | assumption | exact at0 | rfl)))
local macro_rules | `(tactic| walk_at "fl.w") => `(tactic| repeat walk_at "fl.t")
local macro_rules | `(tactic| walk_at "fl.wr") => `(tactic| ((repeat walk_at "fl.t"); try (first
  | (refine g_ite (fun _ => ?_) (fun _ => ?_); all_goals walk_at "fl.wr")
  | (refine g_iteN (fun _ => ?_) (fun _ => ?_); all_goals walk_at "fl.wr"))))

local macro_rules | `(tactic| walk_at "fl.t") => `(tactic| (with_reducible refine g_eqS ?_))
local macro_rules | `(tactic| walk_at "fl.t") => `(tactic| ((with_reducible apply g_lrev2); (focus walk_at "fl.lk"); intro _ _))
local macro_rules | `(tactic| walk_at "fl.t") => `(tactic| (with_reducible refine g_lrev ?_))
local macro_rules | `(tactic| walk_at "fl.t") => `(tactic| ((with_reducible apply g_slR0); (focus walk_at "fl.lk"); intro _ _))
local macro_rules | `(tactic| walk_at "fl.w") => `(tactic| repeat walk_at "fl.t")

local macro_rules | `(tactic| walk_at "fl.t") => `(tactic| (with_reducible refine g_asg2 ?_))
local macro_rules | `(tactic| walk_at "fl.t") => `(tactic| ((with_reducible apply g_allL); (focus walk_at "fl.lk")))
local macro_rules | `(tactic| walk_at "fl.t") => `(tactic| ((with_reducible apply g_enE); (focus walk_at "fl.lk")))
local macro_rules | `(tactic| walk_at "fl.t") => `(tactic| (with_reducible refine g_enum ?_))
local macro_rules | `(tactic| walk_at "fl.t") => `(tactic| (with_reducible refine g_truN ?_))
local macro_rules | `(tactic| walk_at "fl.t") => `(tactic| (with_reducible refine g_orT ?_))
local macro_rules | `(tactic| walk_at "fl.t") => `(tactic| (with_reducible refine g_chain ?_))
local macro_rules | `(tactic| walk_at "fl.t") => `(tactic| ((with_reducible apply g_sfE); (focus first | exact InitAt.hx (by assumption) | walk_at "fl.raw"); (focus assumption); (focus ((apply na_of); (focus assumption); rfl)); (focus (simp only [List.length_append, List.length_cons, List.length_nil]; omega))))
local macro_rules | `(tactic| walk_at "fl.t") => `(tactic| ((with_reducible apply g_fldE); (focus walk_at "fl.raw"); (focus assumption); (focus ((apply na_of); (focus assumption); rfl)); (focus rfl)))
local macro_rules | `(tactic| walk_at "fl.t") => `(tactic| (with_reducible refine g_make ?_))
local macro_rules | `(tactic| walk_at "fl.t") => `(tactic| (with_reducible refine g_sf ?_))
local macro_rules | `(tactic| walk_at "fl.t") => `(tactic| (with_reducible refine g_fld ?_))
local macro_rules | `(tactic| walk_at "fl.w") => `(tactic| repeat walk_at "fl.t")

section
/-- a glyph becomes three at most -/
def Out3 (k : LkV) : Prop := k.kind = "multiple" → ∀ r, r ∈ k.rules → r.out.length ≤ 3
end
section
variable {P : Program} {w : World} {K : PySem.W.Frag} {mg : Str → Option Value} {base : Heap}
def seeV (k : LkV) (g : GlV) : Bool := !(k.ign && g.mark)
def fSe (c : Cs) (ds : List PyData) (d : PyData) : Prop := ∃ (f : FoV) (l g : Nat) (k : LkV) (gl : GlV), ds = [foD c f.R, .int l, .int g] ∧ f.lks[l]? = some k ∧ f.glyphs[g]? = some gl ∧ d = .bool (seeV k gl)
theorem ok_sees (T : Txt K mg) : Has P w K mg base 1 "sees" ps_sees (spD (fSe (cs mg))) := by
  obtain ⟨_, _, _, _, _, _, _, _, _, _, _, _, _, _, cF⟩ := T.c_Font
  have clF := cF.cl
  have naF := cF.na
  obtain ⟨_, _, _, _, _, _, _, _, cG⟩ := T.c_Glyph
  have clG := cG.cl
  have naG := cG.na
  have clL := T.c_Lookup.cl
  have naL := T.c_Lookup.na
  refine has_of T.d_sees sc_sees bd_sees (fun vs H Q E h => ?_) (fun f cdv A outer s H vs Q E hr h => ?_)
  · obtain ⟨S, ds, d, _, hd, ⟨f, l, g, k, gl, rfl, _⟩, _⟩ := h
    rw [hd.len]
    rfl
  · obtain ⟨S, ds, d, hS, hd, ⟨fo, l, g, k, gl, rfl, hk, hg, rfl⟩, q⟩ := h
    obtain ⟨v1, _, rfl, h1, hd⟩ := hd.consE
    obtain ⟨v2, _, rfl, h2, hd⟩ := hd.consE
    obtain ⟨v3, _, rfl, h3, hd⟩ := hd.consE
    cases hd.nilE
    cases h2.intE
    cases h3.intE
    obtain ⟨fa, fdx, w1, w2, w3, w4, w5, w6, w7, w8, w9, rfl, fna, fA, j1, j2, j3, j4, j5, j6, j7, j8, j9⟩ := foE h1
    obtain ⟨lb, ls, rfl, hlb, hll, hlD⟩ := lstN j4
    obtain ⟨gb, gs, rfl, hgb, hgl, hgD⟩ := lstN j2
    obtain ⟨xl, hxl, hxlD⟩ := hlD.getD (i := l) (d := lkD (cs mg) k.R) (by show ((fo.lks.map LkV.R).map _)[l]? = _; rw [List.getElem?_map, List.getElem?_map, hk]; rfl)
    obtain ⟨xg, hxg, hxgD⟩ := hgD.getD (i := g) (d := glD (cs mg) gl.R) (by show ((fo.glyphs.map GlV.R).map _)[g]? = _; rw [List.getElem?_map, List.getElem?_map, hg]; rfl)
    obtain ⟨la, ldx, l1, l2, l3, rfl, _, hlA, m1, m2, m3⟩ := lkE hxlD
    obtain ⟨ga, gdx, u1, u2, u3, u4, u5, u6, u7, rfl, _, hgA, k1, k2, k3, k4, k5, k6, k7⟩ := glE hxgD
    cases m3.blE
    cases k5.blE
    have hatl : atI ls (l : Int) = some (.ref la) := atI_nat (j := l) hxl
    have hatg : atI gs (g : Int) = some (.ref ga) := atI_nat (j := g) hxg
    unfold seeV at q
    refine ⟨_, (pss_one (ps_ret (pe_not (pe_and (peFld (K := K) rfl (pe_ix (ixL (K := K) rfl) (peFld (K := K) rfl (pv 0) rfl) (pv 1) (fun _ _ => rfl)) rfl) (pe_one (peFld (K := K) rfl (pe_ix (ixL (K := K) rfl) (peFld (K := K) rfl (pv 0) rfl) (pv 2) (fun _ _ => rfl)) rfl)))))), ?_⟩
    walk_at "fl.w"
    cases e1 : k.ign with
    | false =>
      rw [e1] at q
      walk_at "fl.w"
      exact q _ _ (L2.Same.refl _) (.bl _)
    | true =>
      rw [e1] at q
      walk_at "fl.w"
      exact q _ _ (L2.Same.refl _) (.bl _)
end

section
variable {P : Program} {w : World} {K : PySem.W.Frag} {mg : Str → Option Value} {base : Heap}
/-- the indexes that are walked from at on, below n, one step after another -/
def Trail (step : Int) (n : Nat) : Int → List Nat → Prop
  | at_, [] => ¬ (0 ≤ at_ ∧ at_ < (n : Int))
  | at_, x :: L => at_ = (x : Int) ∧ x < n ∧ Trail step n (at_ + step) L
theorem trail_up (n : Nat) : ∀ (m i : Nat), i + m = n → Trail 1 n i ((List.range m).map (i + ·))
  | 0, i, h => by simp only [List.range_zero, List.map_nil, Trail]; omega
  | m + 1, i, h => by
    rw [List.range_succ_eq_map]
    simp only [List.map_cons, List.map_map, Trail, Nat.add_zero, true_and]
    refine ⟨by omega, ?_⟩
    have := trail_up n m (i + 1) (by omega)
    rw [show ((i : Int) + 1) = ((i + 1 : Nat) : Int) by simp]
    rw [show (List.range m).map ((i + ·) ∘ Nat.succ) = (List.range m).map (i + 1 + ·) from List.map_congr_left fun x _ => by simp only [Function.comp]; omega]
    exact this
theorem trail_down (n : Nat) : ∀ (j : Nat), j ≤ n → Trail (-1) n ((j : Int) - 1) (List.range j).reverse
  | 0, _ => by simp only [List.range_zero, List.reverse_nil, Trail]; omega
  | j + 1, h => by
    rw [List.range_succ, List.reverse_append]
    simp only [List.reverse_cons, List.reverse_nil, List.nil_append, List.cons_append, Trail]
    refine ⟨by omega, by omega, ?_⟩
    have := trail_down n j (by omega)
    rw [show (((j + 1 : Nat) : Int) - 1 + -1) = (j : Int) - 1 by omega]
    exact this
/-- an item of a run -/
structure ItV where
  g : Nat
  b : Int
  f : Int
  d : Int
  e : Int
  x : Int
def ItV.D (i : ItV) : PyData := .tuple [.int i.g, .int i.b, .int i.f, .int i.d, .int i.e, .int i.x]
def ruD (run : List ItV) : PyData := .list (run.map ItV.D)
/-- the glyph of the item is one of the font, and it is seen -/
def seeI (f : FoV) (k : LkV) (run : List ItV) (i : Nat) : Bool := match run[i]? with | none => false | some it => match f.glyphs[it.g]? with | none => false | some gl => seeV k gl
def RunOk (f : FoV) (run : List ItV) : Prop := (∀ it, it ∈ run → it.g < f.glyphs.length) ∧ run.length < 1000
def fSi (c : Cs) (ds : List PyData) (d : PyData) : Prop := ∃ (f : FoV) (l : Nat) (k : LkV) (run : List ItV) (at_ step most : Int) (L : List Nat), ds = [foD c f.R, .int l, ruD run, .int at_, .int step, .int most] ∧ f.lks[l]? = some k ∧ RunOk f run ∧ Trail step run.length at_ L ∧ L.length ≤ run.length ∧ d = .list (((L.filter (seeI f k run)).take most.toNat).map fun (i : Nat) => .int (i : Int))
theorem dq_nats {S : List Addr} {H : Hp} : ∀ acc : List Nat, DqA S H (acc.map fun (i : Nat) => V.int (i : Int)) (acc.map fun (i : Nat) => PyData.int (i : Int))
  | [] => .nil
  | a :: acc => .cons (.int _) (dq_nats acc)
theorem ok_seen_items (T : Txt K mg) : Has P w K mg base 2 "seen_items" ps_seen_items (spD (fSi (cs mg))) := by
  have h_sees := ok_sees (P := P) (w := w) (base := base) T
  refine has_of T.d_seen_items sc_seen_items bd_seen_items (fun vs H Q E h => ?_) (fun f cdv A outer s H vs Q E hr h => ?_)
  · obtain ⟨S, ds, d, _, hd, ⟨f, l, k, run, a, st, mo, L, rfl, _⟩, _⟩ := h
    rw [hd.len]
    rfl
  · obtain ⟨S, ds, d, hS, hd, ⟨fo, l, k, run, a, st, mo, L, rfl, hk, hrun, htr, hLl, rfl⟩, q⟩ := h
    obtain ⟨v1, _, rfl, h1, hd⟩ := hd.consE
    obtain ⟨v2, _, rfl, h2, hd⟩ := hd.consE
    obtain ⟨v3, _, rfl, h3, hd⟩ := hd.consE
    obtain ⟨v4, _, rfl, h4, hd⟩ := hd.consE
    obtain ⟨v5, _, rfl, h5, hd⟩ := hd.consE
    obtain ⟨v6, _, rfl, h6, hd⟩ := hd.consE
    cases hd.nilE
    cases h2.intE
    cases h4.intE
    cases h5.intE
    cases h6.intE
    have h3' := h3
    obtain ⟨r, xs, rfl, nr, hr', hX⟩ := h3'.lstE
    have hxl : xs.length = run.length := by rw [hX.len, List.length_map]
    refine ⟨_, (pss_cons (ps_set (i := 6) sc_seen_items.nd rfl (.inl rfl) (pe_lst pa_nil))
      (pss_cons (ps_while PassesOwn.never (PW.pt (pw_and (pt_cmpR op_lt (pe_callB (clLen (K := K) rfl) (by rfl) T.z_len (by decide +kernel) (pa_cons (pv 6) pa_nil)) (pv 5) (nomark _)) (pw_and1 (pt_chain op_le op_lt pe_int (pv 3) (pe_callB (clLen (K := K) rfl) (by rfl) T.z_len (by decide +kernel) (pa_cons (pv 2) pa_nil))))))
        (pss_cons (ps_if (pt_val (pe_h h_sees (hr.mono (by decide)) (pa_cons (pv 0) (pa_cons (pv 1) (pa_cons (pe_ix (ixT (K := K) rfl) (pe_ix (ixL (K := K) rfl) (pv 2) (pv 3) (fun _ _ => rfl)) pe_int (fun _ _ => rfl)) pa_nil)))))
        (pss_one (ps_expr (pe_bm PySem.F.plainAttrs_list PySem.F.slot_list_append PySem.F.type_list_append mt_append (pv 6) (pa_cons (pv 3) pa_nil))))
        pss_nil)
      (pss_one (ps_aug (i := 3) sc_seen_items.nd rfl (.inl rfl) (pv 4) ip_add))))
      (pss_one (ps_ret (pv 6))))), ?_⟩
    walk_at "fl.w"
    rename_i p hp
    have np : p ∉ S := hS.ni hp
    have smp : Same H (upd H p (.lst [])) := Fl.Same.new hp
    have alp0 : Al (p :: S) (upd H p (.lst [])) := .cons (by rw [upd_same]; simp) (hS.same smp)
    have keep : ∀ {H' : Hp} {a : Addr} {o : HO}, Fr [p] (upd H p (.lst [])) H' → H a = some o → H' a = some o := fun f e => f _ _ (by simp; intro z; rw [z, hp] at e; cases e) (smp _ _ e)
    refine ⟨fun m σ' H' => ∃ (b : Int) (M : List Nat) (acc : List Nat), σ' = [some v1, some (.int (l : Int)), some (.ref r), some (.int b), some (.int st), some (.int mo), some (.ref p)] ∧ M.length = m ∧ Trail st run.length b M ∧ Fr [p] (upd H p (.lst [])) H' ∧ H' p = some (.lst (acc.map fun (i : Nat) => V.int (i : Int))) ∧ acc.length + M.length ≤ L.length ∧ (L.filter (seeI fo k run)).take mo.toNat = acc ++ (M.filter (seeI fo k run)).take (mo.toNat - acc.length), ⟨L.length, a, L, [], rfl, rfl, htr, Fr.refl, upd_same, by simp, by simp⟩, ?_⟩
    rintro m σ' H' ⟨b, M, acc, rfl, hM, hT, hf, hacc, hle, heq⟩
    walk_at "fl.w"
    have smH : Same H H' := fun a o e => keep hf e
    have hr2 := smH _ _ hr'
    have ex : (L.filter (seeI fo k run)).take mo.toNat = acc → Q (.ref p) H' := fun e => by
      refine q _ _ smH ?_
      rw [e]
      exact Dq.lst np hacc (dq_nats acc)
    by_cases c1 : (acc.length : Int) < mo
    case neg =>
      refine g_noB (by rw [List.length_map]; exact c1) ?_
      walk_at "fl.w"
      exact ex (by rw [heq, show mo.toNat - acc.length = 0 by omega]; simp)
    refine g_yesB (by rw [List.length_map]; exact c1) ?_
    walk_at "fl.w"
    cases M with
    | nil =>
      have hn : ¬ (0 ≤ b ∧ b < (run.length : Int)) := hT
      have e0 : (L.filter (seeI fo k run)).take mo.toNat = acc := by rw [heq]; simp
      by_cases c2 : 0 ≤ b
      · refine g_yesB c2 ?_
        walk_at "fl.w"
        refine g_noB (show ¬ (b < (xs.length : Int)) by omega) ?_
        walk_at "fl.w"
        exact ex e0
      · refine g_noB c2 ?_
        walk_at "fl.w"
        exact ex e0
    | cons x M =>
      obtain ⟨rfl, hx, hT⟩ := hT
      refine g_yesB (show (0 : Int) ≤ (x : Int) by omega) ?_
      walk_at "fl.w"
      refine g_yesB (show (x : Int) < (xs.length : Int) by omega) ?_
      walk_at "fl.w"
      refine ⟨_, fun _ _ h => h, ?_⟩
      obtain ⟨it, hit⟩ : ∃ it, run[x]? = some it := ⟨_, List.getElem?_eq_getElem hx⟩
      obtain ⟨gl, hgl⟩ : ∃ gl, fo.glyphs[it.g]? = some gl := ⟨_, List.getElem?_eq_getElem (hrun.1 it (List.mem_of_getElem? hit))⟩
      obtain ⟨xv, hxv, hxD⟩ := hX.getD (i := x) (d := it.D) (by rw [List.getElem?_map, hit]; rfl)
      obtain ⟨t, zr, rfl, _, ht, hZ⟩ := hxD.tupE
      obtain ⟨d1, zr, rfl, hd1, hZ⟩ := hZ.consE
      cases hd1.intE
      have ht2 := smH _ _ ht
      have hatx : atI xs (x : Int) = some (.ref t) := atI_nat (j := x) hxv
      have hsee : seeI fo k run x = seeV k gl := by simp [seeI, hit, hgl]
      walk_at "fl.w"
      refine g_ixT (SqT.of ht2) (atI_nat (j := 0) rfl) ?_
      walk_at "fl.w"
      refine spD_app S [foD (cs mg) fo.R, .int l, .int it.g] (.bool (seeV k gl)) (hS.same smH) (.cons (h1.same smH) (.cons (.int _) (.cons (.int _) .nil))) ⟨fo, l, it.g, k, gl, rfl, hk, hgl, rfl⟩ (fun v H2 sm hv => ?_)
      cases hv.blE
      have hacc2 := sm _ _ hacc
      have hacl : acc.length < 2000 := by
        have := hrun.2
        simp only [List.length_cons] at hle
        omega
      cases e : seeV k gl with
      | true =>
        rw [e] at hsee
        walk_at "fl.w"

        refine ⟨M.length, by simp only [List.length_cons] at hM; omega, _, M, acc ++ [x], rfl, rfl, hT, hf.trans ((Fr.same sm).trans (Fr.upd (by simp))), by rw [upd_same, List.map_append]; rfl, by simp only [List.length_cons, List.length_append, List.length_nil] at hle ⊢; omega, ?_⟩
        rw [heq, List.filter_cons, hsee, if_pos rfl, show mo.toNat - acc.length = (mo.toNat - (acc ++ [x]).length) + 1 by simp; omega, List.take_succ_cons, List.append_assoc]
        rfl
      | false =>
        rw [e] at hsee
        walk_at "fl.w"

        refine ⟨M.length, by simp only [List.length_cons] at hM; omega, _, M, acc, rfl, rfl, hT, hf.trans (Fr.same sm), hacc2, by simp only [List.length_cons] at hle ⊢; omega, ?_⟩
        rw [heq, List.filter_cons, hsee, if_neg (by simp)]
end

section
variable {S : List Addr} {H1 : Hp} {K : PySem.W.Frag} {g : TG} {tt : TT} {te : TE} {vs : List Nat} {σ : L2.St} {Q : VK}
/-- [elt for x, y in zip(list, list) if test], nothing changed -/
theorem lcZ {a b : Addr} {xs ys : List V} (f : Nat → Option PyData) (hS : Al S H1) (ha : H1 a = some (.lst xs)) (hb : H1 b = some (.lst ys)) (hl : xs.length = ys.length) (hz : xs.length < 1000)
    (step : ∀ (D : Addr) (i : Nat) (x y : V) (T : Addr) (H : Hp), H1 D = none → xs[i]? = some x → ys[i]? = some y → Same H1 H → Al (D :: S) H → H T = none →
      ∀ (R : V → Hp → Prop) (N : Hp → Prop), (∀ r z H4, f i = some r → Same (upd H T (.tup [x, y])) H4 → Dq (D :: S) H4 z r → R z H4) → (f i = none → ∀ H4, Same (upd H T (.tup [x, y])) H4 → N H4) →
      g (.ref T) (wipe σ vs) (upd H T (.tup [x, y])) fun σ2 H2 => wipe σ2 vs = wipe σ vs ∧ tt σ2 H2 fun b H3 => if b = true then te σ2 H3 R else N H3)
    (q : ∀ (D : Addr) (H : Hp), Same H1 H → H1 D = none → Dq S H (.ref D) (.list ((List.range xs.length).filterMap f)) → Q (.ref D) H) :
    lcK (Itz K a b) g tt te vs σ H1 Q := by
  unfold lcK
  intro D hD
  have hDa : a ≠ D := fun e => by rw [e, hD] at ha; cases ha
  have hDb : b ≠ D := fun e => by rw [e, hD] at hb; cases hb
  refine lc_it (walk_zip (xs := xs) (ys := ys) (n := xs.length) (by omega)) (CompAt S H1 D f) (CompAt.zero hD) ?_ ?_ ?_
  · intro i H _ h
    exact ⟨SqL.of (h.fr a _ (by simpa using hDa) ha), SqL.of (h.fr b _ (by simpa using hDb) hb)⟩
  · intro i x H H' hi h ⟨T, y, z, e1, hT, e2, e3, e4⟩
    subst e1 e2
    have hsm : Same H1 H := sm_of hD h.fr
    exact step D i y z T H hD e3 e4 hsm (h.al hS hD) hT _ _ (fun r y H4 er s d => h.put (by omega) er ((Fl.Same.new hT).trans s) d) fun en H4 s => (h.same ((Fl.Same.new hT).trans s)).skip en
  · intro H h
    exact q D H (sm_of hD h.fr) hD (h.fin hS hD)
theorem inV_ints (g : Int) : ∀ c : List Int, inV (.int g) (c.map V.int) = decide (g ∈ c)
  | [] => rfl
  | a :: c => by
    have := inV_ints g c
    simp only [inV, List.map_cons, List.any_cons] at this ⊢
    rw [this]
    by_cases e : g = a
    · subst e; simp [eqV]
    · have : eqV (.int a) (.int g) = false := by simp [eqV]; omega
      simp [this, e]
end
section
variable {P : Program} {w : World} {K : PySem.W.Frag} {mg : Str → Option Value} {base : Heap}
/-- the item of the index has a glyph of the set -/
def isIn (run : List ItV) (i : Nat) (c : List Int) : Bool := match run[i]? with | none => false | some it => decide ((it.g : Int) ∈ c)
def inS (run : List ItV) (ix : List Nat) (sl : List (List Int)) : Bool := decide (sl.length ≤ ix.length) && (List.zipWith (isIn run) ix sl).all id
theorem bools_of {S : List Addr} {H : Hp} : ∀ {L : List Bool} {xs : List V}, DqA S H xs (L.map PyData.bool) → xs = L.map V.bl
  | [], xs, h => h.nilE
  | b :: L, xs, h => by
    obtain ⟨v, ws, rfl, hv, h⟩ := h.consE
    rw [hv.blE, bools_of h]
    rfl
theorem ints_of {S : List Addr} {H : Hp} : ∀ {L : List Int} {xs : List V}, DqA S H xs (L.map PyData.int) → xs = L.map V.int
  | [], xs, h => h.nilE
  | b :: L, xs, h => by
    obtain ⟨v, ws, rfl, hv, h⟩ := h.consE
    rw [hv.intE, ints_of h]
    rfl
def natsD (ix : List Nat) : PyData := .list (ix.map fun (i : Nat) => .int (i : Int))
def setsD (sl : List (List Int)) : PyData := .list (sl.map fun c => .list (c.map .int))
def fAi (ds : List PyData) (d : PyData) : Prop := ∃ (run : List ItV) (ix : List Nat) (sl : List (List Int)), ds = [ruD run, natsD ix, setsD sl] ∧ ix.length ≤ sl.length ∧ sl.length < 1000 ∧ (∀ i, i ∈ ix → i < run.length) ∧ d = .bool (inS run ix sl)
theorem ok_are_in_sets (T : Txt K mg) : Has P w K mg base 1 "are_in_sets" ps_are_in_sets (spD fAi) := by
  refine has_of T.d_are_in_sets sc_are_in_sets bd_are_in_sets (fun vs H Q E h => ?_) (fun f cdv A outer s H vs Q E hr h => ?_)
  · obtain ⟨S, ds, d, _, hd, ⟨run, ix, sl, rfl, _⟩, _⟩ := h
    rw [hd.len]
    rfl
  · obtain ⟨S, ds, d, hS, hd, ⟨run, ix, sl, rfl, hle, hsz, hix, rfl⟩, q⟩ := h
    obtain ⟨v1, _, rfl, h1, hd⟩ := hd.consE
    obtain ⟨v2, _, rfl, h2, hd⟩ := hd.consE
    obtain ⟨v3, _, rfl, h3, hd⟩ := hd.consE
    cases hd.nilE
    have h1' := h1
    have h2' := h2
    have h3' := h3
    obtain ⟨r, xs, rfl, nr, hr', hX⟩ := h1'.lstE
    obtain ⟨b, ys, rfl, nb, hb, hY⟩ := h2'.lstE
    obtain ⟨c, zs, rfl, nc, hc, hZ⟩ := h3'.lstE
    have hyl : ys.length = ix.length := by rw [hY.len, List.length_map]
    have hzl : zs.length = sl.length := by rw [hZ.len, List.length_map]
    refine ⟨_, (pss_cons (ps_if (pt_cmpR op_lt (pe_callB (clLen (K := K) rfl) (by rfl) T.z_len (by decide +kernel) (pa_cons (pv 1) pa_nil)) (pe_callB (clLen (K := K) rfl) (by rfl) T.z_len (by decide +kernel) (pa_cons (pv 2) pa_nil)) (nomark _))
        (pss_one (ps_ret pe_bl))
        pss_nil)
      (pss_one (ps_ret (pe_callB (clAll (K := K) rfl rfl) (by rfl) T.z_all (by decide +kernel) (pa_cons (pe_lc (own := [("index", 3), ("chosen", 4)]) rfl sc_are_in_sets.nd (pi_zip (by rfl) T.z_zip (pa_cons (pv 1) (pa_cons (pv 2) pa_nil))) (blkOk_by (by kernel_rfl)) (fun _ _ _ _ _ => (pgT (n := 2) (K := K) rfl (by rfl) (pgs_cons (pg_name (i := 3) sc_are_in_sets.nd rfl (.inl rfl)) (pgs_cons (pg_name (i := 4) sc_are_in_sets.nd rfl (.inl rfl)) pgs_nil)))) (fun _ _ _ _ _ => pts_nil) (fun _ _ _ _ _ => (pe_cmpR (opIn (K := K) rfl) (pe_ix (ixT (K := K) rfl) (pe_ix (ixL (K := K) rfl) (pv 0) (pv 3) (fun _ _ => rfl)) pe_int (fun _ _ => rfl)) (pv 4) (by rfl)))) pa_nil))))), ?_⟩
    walk_at "fl.w"
    by_cases c1 : ix.length < sl.length
    · refine g_yesB (show (ys.length : Int) < (zs.length : Int) by omega) ?_
      walk_at "fl.w"
      rw [show inS run ix sl = false by simp [inS, show ¬ sl.length ≤ ix.length by omega]] at q
      exact q _ _ (L2.Same.refl _) (.bl false)
    refine g_noB (show ¬ (ys.length : Int) < (zs.length : Int) by omega) ?_
    walk_at "fl.w"
    refine lcZ (fun i => (List.zipWith (isIn run) ix sl)[i]? |>.map PyData.bool) hS hb hc (by omega) (by omega) ?_ ?_
    · intro D i x y T2 H2 hD hx hy sm al hT R N hR hN
      obtain ⟨j, hj, hxj⟩ := hY.getM hx
      obtain ⟨cs, hcs, hyc⟩ := hZ.getM hy
      cases hxj.intE
      obtain ⟨cb, cz, rfl, _, hcb, hC⟩ := hyc.lstE
      obtain ⟨it, hit⟩ : ∃ it, run[j]? = some it := ⟨_, List.getElem?_eq_getElem (hix j (List.mem_of_getElem? hj))⟩
      obtain ⟨xv, hxv, hxD⟩ := hX.getD (i := j) (d := it.D) (by rw [List.getElem?_map, hit]; rfl)
      obtain ⟨t, zr, rfl, _, ht, hI⟩ := hxD.tupE
      obtain ⟨d1, zr, rfl, hd1, hI⟩ := hI.consE
      cases hd1.intE
      have hatx : atI xs (j : Int) = some (.ref t) := atI_nat (j := j) hxv
      have smT : Same H (upd H2 T2 (.tup [V.int (j : Int), V.ref cb])) := sm.trans (Fl.Same.new hT)
      have ht2 := smT _ _ ht
      have hr2 := smT _ _ hr'
      have hcb2 := smT _ _ hcb
      obtain rfl := ints_of hC
      walk_at "fl.w"
      refine ⟨rfl, ?_⟩
      walk_at "fl.w"
      refine g_ixT (SqT.of ht2) (atI_nat (j := 0) rfl) ?_
      walk_at "fl.w"
      refine ⟨cb, _, rfl, .inl (SqL.of hcb2), rfl, by simp [flatV], ?_⟩
      have hii : (List.zipWith (isIn run) ix sl)[i]? = some (decide ((it.g : Int) ∈ cs)) := by
        rw [List.getElem?_zipWith, hj, hcs]
        simp [isIn, hit]
      rw [if_neg (by simp), inV_ints]
      exact hR _ _ _ (by rw [hii]; rfl) (L2.Same.refl _) (.bl _)
    · intro D H2 sm hD hq
      rw [fm_ltA (by rw [List.length_zipWith]; omega)] at hq
      obtain ⟨da, dz, e, _, hda, hdz⟩ := hq.lstE
      cases e
      obtain rfl := bools_of hdz
      refine g_allL (SqL.of hda) ?_
      rw [show inS run ix sl = (List.zipWith (isIn run) ix sl).all id by simp [inS, show sl.length ≤ ix.length by omega]] at q
      exact q _ _ sm (.bl _)
end

section
variable {P : Program} {w : World} {K : PySem.W.Frag} {mg : Str → Option Value} {base : Heap}
def onV (f : FoV) (k : LkV) (r : RuV) (run : List ItV) (a : Nat) : List Nat := (((List.range (run.length - a)).map (a + ·)).filter (seeI f k run)).take (r.inside.length + r.ahead.length)
def bkV (f : FoV) (k : LkV) (r : RuV) (run : List ItV) (a : Nat) : List Nat := ((List.range a).reverse.filter (seeI f k run)).take r.back.length
/-- the items that a rule matches at an index -/
def matV (f : FoV) (k : LkV) (r : RuV) (run : List ItV) (a : Nat) : Option (List Nat) :=
  if seeI f k run a = false then none else if inS run (onV f k r run a) (r.inside ++ r.ahead) = false then none else if inS run (bkV f k r run a) r.back = false then none else some ((onV f k r run a).take r.inside.length)
theorem onV_le {f : FoV} {k : LkV} {r : RuV} {run : List ItV} {a : Nat} : (onV f k r run a).length ≤ (r.inside ++ r.ahead).length := by
  unfold onV
  rw [List.length_take, List.length_append]
  omega
theorem bkV_le {f : FoV} {k : LkV} {r : RuV} {run : List ItV} {a : Nat} : (bkV f k r run a).length ≤ r.back.length := by
  unfold bkV
  rw [List.length_take]
  omega
theorem onV_lt {f : FoV} {k : LkV} {r : RuV} {run : List ItV} {a : Nat} (i : Nat) (h : i ∈ onV f k r run a) : i < run.length := by
  have := (List.mem_filter.mp (List.mem_of_mem_take h)).1
  simp only [List.mem_map, List.mem_range] at this
  obtain ⟨x, hx, rfl⟩ := this
  omega
theorem bkV_lt {f : FoV} {k : LkV} {r : RuV} {run : List ItV} {a : Nat} (ha : a ≤ run.length) (i : Nat) (h : i ∈ bkV f k r run a) : i < run.length := by
  have := (List.mem_filter.mp (List.mem_of_mem_take h)).1
  simp only [List.mem_reverse, List.mem_range] at this
  omega
def optD : Option (List Nat) → PyData
  | none => .none
  | some l => natsD l
theorem RuV.ins (r : RuV) : llD r.R.inside = setsD r.inside := by
  unfold llD setsD RuV.R
  simp only [List.map_map]
  rfl
theorem RuV.bks (r : RuV) : llD r.R.back = setsD r.back := by
  unfold llD setsD RuV.R
  simp only [List.map_map]
  rfl
theorem RuV.ahs (r : RuV) : llD r.R.ahead = setsD r.ahead := by
  unfold llD setsD RuV.R
  simp only [List.map_map]
  rfl
def fMi (c : Cs) (ds : List PyData) (d : PyData) : Prop := ∃ (f : FoV) (l a i : Nat) (k : LkV) (r : RuV) (run : List ItV), ds = [foD c f.R, .int l, ruD run, .int a, .int i] ∧ f.Ok ∧ f.lks[l]? = some k ∧ k.rules[i]? = some r ∧ RunOk f run ∧ a < run.length ∧ d = optD (matV f k r run a)
theorem ok_matched_items (T : Txt K mg) : Has P w K mg base 3 "matched_items" ps_matched_items (spD (fMi (cs mg))) := by
  obtain ⟨_, _, _, _, _, _, _, _, _, _, _, _, _, _, cF⟩ := T.c_Font
  have clF := cF.cl
  have naF := cF.na
  obtain ⟨_, _, _, _, _, _, _, _, cR⟩ := T.c_Rule
  have clR := cR.cl
  have naR := cR.na
  have clL := T.c_Lookup.cl
  have naL := T.c_Lookup.na
  have h_sees := ok_sees (P := P) (w := w) (base := base) T
  have h_seen_items := ok_seen_items (P := P) (w := w) (base := base) T
  have h_are_in_sets := ok_are_in_sets (P := P) (w := w) (base := base) T
  refine has_of T.d_matched_items sc_matched_items bd_matched_items (fun vs H Q E h => ?_) (fun f cdv A outer s H vs Q E hr h => ?_)
  · obtain ⟨S, ds, d, _, hd, ⟨fo, l, a, i, k, r, run, rfl, _⟩, _⟩ := h
    rw [hd.len]
    rfl
  · obtain ⟨S, ds, d, hS, hd, ⟨fo, l, a, i, k, r, run, rfl, fok, hk, hri, hrun, ha, rfl⟩, q⟩ := h
    obtain ⟨v1, _, rfl, h1, hd⟩ := hd.consE
    obtain ⟨v2, _, rfl, h2, hd⟩ := hd.consE
    obtain ⟨v3, _, rfl, h3, hd⟩ := hd.consE
    obtain ⟨v4, _, rfl, h4, hd⟩ := hd.consE
    obtain ⟨v5, _, rfl, h5, hd⟩ := hd.consE
    cases hd.nilE
    cases h2.intE
    cases h4.intE
    cases h5.intE
    have rok := (fok.lo k (List.mem_of_getElem? hk)).ro r (List.mem_of_getElem? hri)
    have h1' := h1
    have h3' := h3
    obtain ⟨fa, fdx, w1, w2, w3, w4, w5, w6, w7, w8, w9, rfl, fna, fA, j1, j2, j3, j4, j5, j6, j7, j8, j9⟩ := foE h1'
    obtain ⟨lb, ls, rfl, hlb, hll, hlD⟩ := lstN j4
    obtain ⟨xl, hxl, hxlD⟩ := hlD.getD (i := l) (d := lkD (cs mg) k.R) (by show ((fo.lks.map LkV.R).map _)[l]? = _; rw [List.getElem?_map, List.getElem?_map, hk]; rfl)
    obtain ⟨la, ldx, l1, l2, l3, rfl, _, hlA, m1, m2, m3⟩ := lkE hxlD
    obtain ⟨rb, rs, rfl, hrb, hrl, hrD⟩ := lstN m2
    obtain ⟨xr, hxr, hxrD⟩ := hrD.getD (i := i) (d := insD (cs mg).R r.R.F) (by show ((k.rules.map RuV.R).map _)[i]? = _; rw [List.getElem?_map, List.getElem?_map, hri]; rfl)
    obtain ⟨ra, rdx, u1, u2, u3, u4, u5, u6, rfl, rna, rA, k1, k2, k3, k4, k5, k6⟩ := ruE hxrD
    rw [RuV.ins] at k1
    rw [RuV.bks] at k2
    rw [RuV.ahs] at k3
    have k1' := k1
    have k2' := k2
    have k3' := k3
    obtain ⟨b1, xs1, rfl, nb1, hb1, hD1⟩ := k1'.lstE
    obtain ⟨b2, xs2, rfl, nb2, hb2, hD2⟩ := k2'.lstE
    obtain ⟨b3, xs3, rfl, nb3, hb3, hD3⟩ := k3'.lstE
    have hn1 : xs1.length = r.inside.length := by rw [hD1.len, List.length_map]
    have hn2 : xs2.length = r.back.length := by rw [hD2.len, List.length_map]
    have hn3 : xs3.length = r.ahead.length := by rw [hD3.len, List.length_map]
    have hatl : atI ls (l : Int) = some (.ref la) := atI_nat (j := l) hxl
    have hatr : atI rs (i : Int) = some (.ref ra) := atI_nat (j := i) hxr
    obtain ⟨rr, xs, rfl, nr, hr', hX⟩ := h3'.lstE
    obtain ⟨it, hit⟩ : ∃ it, run[a]? = some it := ⟨_, List.getElem?_eq_getElem ha⟩
    obtain ⟨gl, hgl⟩ : ∃ gl, fo.glyphs[it.g]? = some gl := ⟨_, List.getElem?_eq_getElem (hrun.1 it (List.mem_of_getElem? hit))⟩
    obtain ⟨xv, hxv, hxD⟩ := hX.getD (i := a) (d := it.D) (by rw [List.getElem?_map, hit]; rfl)
    obtain ⟨t, zr, rfl, _, ht, hZ⟩ := hxD.tupE
    obtain ⟨d1, zr, rfl, hd1, hZ⟩ := hZ.consE
    cases hd1.intE
    have hatx : atI xs (a : Int) = some (.ref t) := atI_nat (j := a) hxv
    have hsee : seeI fo k run a = seeV k gl := by simp [seeI, hit, hgl]
    refine ⟨_, (pss_cons (ps_if (pt_not (pt_val (pe_h h_sees (hr.mono (by decide)) (pa_cons (pv 0) (pa_cons (pv 1) (pa_cons (pe_ix (ixT (K := K) rfl) (pe_ix (ixL (K := K) rfl) (pv 2) (pv 3) (fun _ _ => rfl)) pe_int (fun _ _ => rfl)) pa_nil))))))
        (pss_one (ps_ret pe_non))
        pss_nil)
      (pss_cons (ps_set (i := 5) sc_matched_items.nd rfl (.inl rfl) (pe_ix (ixL (K := K) rfl) (peFld (K := K) rfl (pe_ix (ixL (K := K) rfl) (peFld (K := K) rfl (pv 0) rfl) (pv 1) (fun _ _ => rfl)) rfl) (pv 4) (fun _ _ => rfl)))
      (pss_cons (ps_set (i := 6) sc_matched_items.nd rfl (.inl rfl) (pe_h h_seen_items (hr.mono (by decide)) (pa_cons (pv 0) (pa_cons (pv 1) (pa_cons (pv 2) (pa_cons (pv 3) (pa_cons pe_int (pa_cons (pe_op op_add (pe_callB (clLen (K := K) rfl) (by rfl) T.z_len (by decide +kernel) (pa_cons (peFld (K := K) rfl (pv 5) rfl) pa_nil)) (pe_callB (clLen (K := K) rfl) (by rfl) T.z_len (by decide +kernel) (pa_cons (peFld (K := K) rfl (pv 5) rfl) pa_nil))) pa_nil))))))))
      (pss_cons (ps_if (pt_not (pt_val (pe_h h_are_in_sets (hr.mono (by decide)) (pa_cons (pv 2) (pa_cons (pv 6) (pa_cons (pe_op op_cat (peFld (K := K) rfl (pv 5) rfl) (peFld (K := K) rfl (pv 5) rfl)) pa_nil))))))
        (pss_one (ps_ret pe_non))
        pss_nil)
      (pss_cons (ps_set (i := 7) sc_matched_items.nd rfl (.inl rfl) (pe_h h_seen_items (hr.mono (by decide)) (pa_cons (pv 0) (pa_cons (pv 1) (pa_cons (pv 2) (pa_cons (pe_op op_sub (pv 3) pe_int) (pa_cons (pe_un un_neg pe_int) (pa_cons (pe_callB (clLen (K := K) rfl) (by rfl) T.z_len (by decide +kernel) (pa_cons (peFld (K := K) rfl (pv 5) rfl) pa_nil)) pa_nil))))))))
      (pss_cons (ps_if (pt_not (pt_val (pe_h h_are_in_sets (hr.mono (by decide)) (pa_cons (pv 2) (pa_cons (pv 7) (pa_cons (peFld (K := K) rfl (pv 5) rfl) pa_nil))))))
        (pss_one (ps_ret pe_non))
        pss_nil)
      (pss_one (ps_ret (pe_slice (slL' (K := K) rfl) (pv 6) po_none (po_some (pe_callB (clLen (K := K) rfl) (by rfl) T.z_len (by decide +kernel) (pa_cons (peFld (K := K) rfl (pv 5) rfl) pa_nil)))))))))))), ?_⟩
    walk_at "fl.w"
    refine g_ixT (SqT.of ht) (atI_nat (j := 0) rfl) ?_
    walk_at "fl.w"
    refine spD_app S [foD (cs mg) fo.R, .int l, .int it.g] (.bool (seeV k gl)) hS (.cons h1 (.cons (.int _) (.cons (.int _) .nil))) ⟨fo, l, it.g, k, gl, rfl, hk, hgl, rfl⟩ (fun v H2 sm hv => ?_)
    cases hv.blE
    unfold matV at q
    cases e : seeV k gl with
    | false =>
      rw [e] at hsee
      rw [if_pos hsee] at q
      walk_at "fl.w"
      exact q _ _ sm .non
    | true =>
    rw [e] at hsee
    rw [if_neg (by rw [hsee]; simp)] at q
    have fA2 := sm _ _ fA
    have hlb2 := sm _ _ hlb
    have hlA2 := sm _ _ hlA
    have hrb2 := sm _ _ hrb
    have rA2 := sm _ _ rA
    have hb12 := sm _ _ hb1
    have hb32 := sm _ _ hb3
    walk_at "fl.w"
    have smA := hS.same sm
    refine spD_app S [foD (cs mg) fo.R, .int l, ruD run, .int a, .int 1, .int ((xs1.length : Int) + (xs3.length : Int))] (natsD (onV fo k r run a)) smA (.cons (h1.same sm) (.cons (.int _) (.cons (h3.same sm) (.cons (.int _) (.cons (.int _) (.cons (.int _) .nil)))))) ⟨fo, l, k, run, a, 1, _, (List.range (run.length - a)).map (a + ·), rfl, hk, hrun, trail_up run.length (run.length - a) a (by omega), by simp, by
      have e3 : ((xs1.length : Int) + (xs3.length : Int)).toNat = r.inside.length + r.ahead.length := by omega
      rw [e3]
      rfl⟩ (fun v H3 sm3 hv3 => ?_)
    have hv3' := hv3
    obtain ⟨oa, os, rfl, noa, hoa, hO⟩ := hv3'.lstE
    have sm13 := sm.trans sm3
    have fA3 := sm13 _ _ fA
    have rA3 := sm13 _ _ rA
    have hb13 := sm13 _ _ hb1
    have hb33 := sm13 _ _ hb3
    walk_at "fl.w"
    have hi4 := rok.i3
    have ha3 := rok.a
    have hb3l := rok.b
    refine g_cat hb13 hb33 (by omega) fun p hp => ?_
    have smp : Same H3 (upd H3 p (.lst (xs1 ++ xs3))) := Fl.Same.new hp
    have al3 := hS.same sm13
    have hcat : Dq S (upd H3 p (.lst (xs1 ++ xs3))) (.ref p) (setsD (r.inside ++ r.ahead)) := by
      unfold setsD
      rw [List.map_append]
      exact Dq.newL al3 hp ((hD1.same sm13).app (hD3.same sm13))
    have smC := sm13.trans smp
    walk_at "fl.w"
    refine spD_app S [ruD run, natsD (onV fo k r run a), setsD (r.inside ++ r.ahead)] (.bool (inS run (onV fo k r run a) (r.inside ++ r.ahead))) (al3.same smp) (.cons (h3.same smC) (.cons (hv3.same smp) (.cons hcat .nil))) ⟨run, _, _, rfl, onV_le, by simp only [List.length_append]; omega, onV_lt, rfl⟩ (fun v H4 sm4 hv4 => ?_)
    cases hv4.blE
    have sm14 := smC.trans sm4
    cases e2 : inS run (onV fo k r run a) (r.inside ++ r.ahead) with
    | false =>
      rw [if_pos e2] at q
      walk_at "fl.w"
      exact q _ _ sm14 .non
    | true =>
    rw [if_neg (by rw [e2]; simp)] at q
    have fA4 := sm14 _ _ fA
    have rA4 := sm14 _ _ rA
    have hb24 := sm14 _ _ hb2
    have hb14 := sm14 _ _ hb1
    walk_at "fl.w"
    refine spD_app S [foD (cs mg) fo.R, .int l, ruD run, .int ((a : Int) - 1), .int (-1), .int (xs2.length : Int)] (natsD (bkV fo k r run a)) (hS.same sm14) (.cons (h1.same sm14) (.cons (.int _) (.cons (h3.same sm14) (.cons (.int _) (.cons (.int _) (.cons (.int _) .nil)))))) ⟨fo, l, k, run, _, _, _, (List.range a).reverse, rfl, hk, hrun, trail_down run.length a (by omega), by simp; omega, by
      have e3 : (xs2.length : Int).toNat = r.back.length := by omega
      rw [e3]
      rfl⟩ (fun v H5 sm5 hv5 => ?_)
    have hv5' := hv5
    obtain ⟨ka, ks, rfl, nka, hka, hKK⟩ := hv5'.lstE
    have sm15 := sm14.trans sm5
    have fA5 := sm15 _ _ fA
    have rA5 := sm15 _ _ rA
    have hb25 := sm15 _ _ hb2
    walk_at "fl.w"
    refine spD_app S [ruD run, natsD (bkV fo k r run a), setsD r.back] (.bool (inS run (bkV fo k r run a) r.back)) (hS.same sm15) (.cons (h3.same sm15) (.cons hv5 (.cons (k2.same sm15) .nil))) ⟨run, _, _, rfl, bkV_le, by omega, bkV_lt (by omega), rfl⟩ (fun v H6 sm6 hv6 => ?_)
    cases hv6.blE
    have sm16 := sm15.trans sm6
    cases e3 : inS run (bkV fo k r run a) r.back with
    | false =>
      rw [if_pos e3] at q
      walk_at "fl.w"
      exact q _ _ sm16 .non
    | true =>
    rw [if_neg (by rw [e3]; simp)] at q
    have rA6 := sm16 _ _ rA
    have hb16 := sm16 _ _ hb1
    have hoa6 := ((smp.trans sm4).trans (sm5.trans sm6)) _ _ hoa
    walk_at "fl.w"
    rename_i p2 hp2
    refine q _ _ (sm16.trans (Fl.Same.new hp2)) ?_
    have e4 : optD (some ((onV fo k r run a).take r.inside.length)) = .list (((onV fo k r run a).map fun (i : Nat) => PyData.int (i : Int)).take xs1.length) := by
      rw [hn1, ← List.map_take]
      rfl
    rw [e4]
    exact Dq.newL (hS.same sm16) hp2 ((hO.same ((smp.trans sm4).trans (sm5.trans sm6))).take xs1.length)
end

section
variable {P : Program} {w : World} {K : PySem.W.Frag} {mg : Str → Option Value} {base : Heap}
def mtR (f : FoV) (k : LkV) (run : List ItV) (a : Nat) (i : Nat) : Bool := match k.rules[i]? with | none => false | some r => (matV f k r run a).isSome
def fsI (run : List ItV) (a : Nat) (fs : List Int) : Bool := match run[a]? with | none => false | some it => decide (it.f ∈ fs)
/-- the first rule that matches at an item of an allowed form -/
def mtV (f : FoV) (k : LkV) (run : List ItV) (a : Nat) (fs : List Int) : Option Nat := if fs ≠ [] ∧ fsI run a fs = false then none else (List.range k.rules.length).find? (mtR f k run a)
def opI : Option Nat → V
  | none => .non
  | some i => .int (i : Int)
def spMt (K : PySem.W.Frag) (c : Cs) : Sp := fun vs H Q _ => ∃ (S : List Addr) (f : FoV) (l a : Nat) (k : LkV) (run : List ItV) (v1 v3 : V) (p : Addr) (fs : List Int), vs = [v1, .int l, v3, .int a, .ref p] ∧ Al S H ∧ Dq S H v1 (foD c f.R) ∧ Dq S H v3 (ruD run) ∧ (SqL K H p (fs.map V.int) ∨ SqT K H p (fs.map V.int)) ∧ f.Ok ∧ f.lks[l]? = some k ∧ RunOk f run ∧ a < run.length ∧ ∀ H', Same H H' → Q (opI (mtV f k run a fs)) H'
theorem ints_flat : ∀ ns : List Int, (ns.map V.int).all flatV = true
  | [] => rfl
  | _ :: ns => by
    show (true && (ns.map V.int).all flatV) = true
    rw [ints_flat ns]
    rfl
theorem g_ninI {K : PySem.W.Frag} {n : Int} {p : Addr} {ns : List Int} {H : Hp} {Q : VK} (h : SqL K H p (ns.map V.int) ∨ SqT K H p (ns.map V.int)) (q : Q (.bl (!decide (n ∈ ns))) H) : rIn K true (.int n) (.ref p) H Q := ⟨p, ns.map V.int, rfl, h, rfl, ints_flat _, by rw [inV_ints]; exact q⟩
theorem g_lenE {K : PySem.W.Frag} {p : Addr} {ys : List V} {H : Hp} {Q : VK} (h : SqL K H p ys ∨ SqT K H p ys) (q : Q (.int (ys.length : Int)) H) : Fl.rLen K [.ref p] H Q := ⟨p, ys, rfl, h, q⟩
theorem body_match (T : Txt K mg) (f : Addr) (cdv : Value) (A : Around) (outer : List Env) (s : Shared) (H : Hp) (vs : List V) (Q : VK) (E : XK)
    (hr : Room 3 (A.deeper (envOfC "match" (defScope s_match) s.heap.objs.size f cdv))) (h : spMt K (cs mg) vs H Q E) :
      ∃ t, PSs (bx P w K mg base N_match "match" s_match f cdv A outer s H E) (defBody s_match) t ∧ t { nx := fun _ H' => Q .non H', rt := Q } (start N_match vs) H := by
  obtain ⟨_, _, _, _, _, _, _, _, _, _, _, _, _, _, cF⟩ := T.c_Font
  have clF := cF.cl
  have naF := cF.na
  have clL := T.c_Lookup.cl
  have naL := T.c_Lookup.na
  have h_matched_items := ok_matched_items (P := P) (w := w) (base := base) T
  obtain ⟨S, fo, l, a, k, run, v1, v3, p, fs, rfl, hS, h1, h3, hp, fok, hk, hrun, ha, q⟩ := h
  refine ⟨_, (pss_cons (ps_if (PW.pt (pw_and (pt_cmpR op_gt (pe_callB (clLen (K := K) rfl) (by rfl) T.z_len (by decide +kernel) (pa_cons (pv 4) pa_nil)) pe_int (nomark _)) (pw_and1 (pt_cmpR (opNotIn (K := K) rfl) (pe_ix (ixT (K := K) rfl) (pe_ix (ixL (K := K) rfl) (pv 2) (pv 3) (fun _ _ => rfl)) pe_int (fun _ _ => rfl)) (pv 4) (by rfl)))))
        (pss_one (ps_ret pe_non))
        pss_nil)
      (pss_cons (ps_for PassesOwn.never rfl (pi_range1 (by rfl) T.z_range (pa_cons (pe_callB (clLen (K := K) rfl) (by rfl) T.z_len (by decide +kernel) (pa_cons (peFld (K := K) rfl (pe_ix (ixL (K := K) rfl) (peFld (K := K) rfl (pv 0) rfl) (pv 1) (fun _ _ => rfl)) rfl) pa_nil)) pa_nil)) (pg_name (i := 5) sc_match.nd rfl (.inl rfl))
        (pss_one (ps_if (pt_cmpR op_notN (pe_h h_matched_items (hr.mono (by decide)) (pa_cons (pv 0) (pa_cons (pv 1) (pa_cons (pv 2) (pa_cons (pv 3) (pa_cons (pv 5) pa_nil)))))) pe_non (nomark _))
        (pss_one (ps_ret (pv 5)))
        pss_nil)))
      (pss_one (ps_ret pe_non)))), ?_⟩
  have h1' := h1
  have h3' := h3
  obtain ⟨fa, fdx, w1, w2, w3, w4, w5, w6, w7, w8, w9, rfl, fna, fA, j1, j2, j3, j4, j5, j6, j7, j8, j9⟩ := foE h1'
  obtain ⟨lb, ls, rfl, hlb, hll, hlD⟩ := lstN j4
  obtain ⟨xl, hxl, hxlD⟩ := hlD.getD (i := l) (d := lkD (cs mg) k.R) (by show ((fo.lks.map LkV.R).map _)[l]? = _; rw [List.getElem?_map, List.getElem?_map, hk]; rfl)
  obtain ⟨la, ldx, l1, l2, l3, rfl, _, hlA, m1, m2, m3⟩ := lkE hxlD
  obtain ⟨rb, rs, rfl, hrb, hrl, hrD⟩ := lstN m2
  have hatl : atI ls (l : Int) = some (.ref la) := atI_nat (j := l) hxl
  obtain ⟨rr, xs, rfl, nr, hr', hX⟩ := h3'.lstE
  obtain ⟨it, hit⟩ : ∃ it, run[a]? = some it := ⟨_, List.getElem?_eq_getElem ha⟩
  obtain ⟨xv, hxv, hxD⟩ := hX.getD (i := a) (d := it.D) (by rw [List.getElem?_map, hit]; rfl)
  obtain ⟨t, zr, rfl, _, ht, hZ⟩ := hxD.tupE
  obtain ⟨d1, zr, rfl, hd1, hZ⟩ := hZ.consE
  obtain ⟨d2, zr, rfl, hd2, hZ⟩ := hZ.consE
  obtain ⟨d3, zr, rfl, hd3, hZ⟩ := hZ.consE
  cases hd3.intE
  have hatx : atI xs (a : Int) = some (.ref t) := atI_nat (j := a) hxv
  have hfs : fsI run a fs = decide (it.f ∈ fs) := by unfold fsI; rw [hit]
  have hrl2 : rs.length = k.rules.length := by
    have := hrD.len
    rw [this]
    show ((k.rules.map RuV.R).map _).length = _
    rw [List.length_map, List.length_map]
  have hrls := (fok.lo k (List.mem_of_getElem? hk)).r
  walk_at "fl.w"
  refine g_lenE hp ?_
  walk_at "fl.w"
  have lfs : ((fs.map V.int).length : Int) = fs.length := by simp
  by_cases hc : fs ≠ [] ∧ fsI run a fs = false
  · have hmt : mtV fo k run a fs = none := by unfold mtV; rw [if_pos hc]
    have hin : ¬ it.f ∈ fs := by have := hc.2; rw [hfs] at this; simpa using this
    have h0 : 0 < fs.length := List.length_pos_iff.mpr hc.1
    refine g_ite (fun _ => ?_) (fun z => absurd (by omega) z)
    walk_at "fl.w"
    refine g_ixT (SqT.of ht) (atI_nat (j := 2) rfl) ?_
    walk_at "fl.w"
    refine g_ninI hp ?_
    walk_at "fl.w"
    refine g_iteN (fun _ => ?_) (fun z => absurd z hin)
    walk_at "fl.w"
    have := q H (L2.Same.refl _)
    rw [hmt] at this
    exact this
  have hmt : mtV fo k run a fs = (List.range k.rules.length).find? (mtR fo k run a) := by unfold mtV; rw [if_neg hc]
  rw [hmt] at q
  rcases Classical.em (fs = []) with h0 | h0
  case' inl =>
    refine g_ite (fun z => absurd z (by rw [h0]; simp)) (fun _ => ?_)
  case' inr =>
    have h0' : 0 < fs.length := List.length_pos_iff.mpr h0
    have hin : it.f ∈ fs := by
      have : ¬ fsI run a fs = false := fun z => hc ⟨h0, z⟩
      rw [hfs] at this
      simpa using this
    refine g_ite (fun _ => ?_) (fun z => absurd (by omega) z)
    walk_at "fl.w"
    refine g_ixT (SqT.of ht) (atI_nat (j := 2) rfl) ?_
    walk_at "fl.w"
    refine g_ninI hp ?_
    walk_at "fl.w"
    refine g_iteN (fun z => absurd hin z) (fun _ => ?_)
  all_goals
    walk_at "fl.w"
    rw [show (((rs.length : Nat) : Int)).toNat = k.rules.length by omega]
    refine forK_r (fun i σ' H' => (∃ u, σ' = [some (.ref fa), some (.int (l : Int)), some (.ref rr), some (.int (a : Int)), some (.ref p), u]) ∧ Same H H' ∧ ∀ j, j < i → mtR fo k run a j = false) ⟨⟨_, rfl⟩, L2.Same.refl _, fun j hj => absurd hj (Nat.not_lt_zero _)⟩ ?_ ?_
    · intro i σ' H' hi ⟨⟨u, e⟩, sm, hall⟩
      subst e
      have hri : k.rules[i]? = some k.rules[i] := List.getElem?_eq_getElem hi
      rw [Int.zero_add]
      walk_at "fl.w"
      refine spD_app S [foD (cs mg) fo.R, .int l, ruD run, .int a, .int i] (optD (matV fo k k.rules[i] run a)) (hS.same sm) (.cons (h1.same sm) (.cons (.int _) (.cons (h3.same sm) (.cons (.int _) (.cons (.int _) .nil))))) ⟨fo, l, a, i, k, _, run, rfl, fok, hk, hri, hrun, ha, rfl⟩ (fun v H2 sm2 hv => ?_)
      have hmi : mtR fo k run a i = (matV fo k k.rules[i] run a).isSome := by unfold mtR; rw [hri]
      cases hm : matV fo k k.rules[i] run a with
      | none =>
        rw [hm] at hv hmi
        cases hv.nonE
        walk_at "fl.w"
        refine g_iteN (fun z => absurd rfl z) (fun _ => ?_)
        walk_at "fl.w"
        refine ⟨⟨_, rfl⟩, sm.trans sm2, fun j hj => ?_⟩
        rcases (by omega : j < i ∨ j = i) with h | rfl
        · exact hall j h
        · exact hmi
      | some L =>
        rw [hm] at hv hmi
        obtain ⟨b, zs, rfl, _, _, _⟩ := hv.lstE
        have nref : ¬ (V.ref b = V.non) := fun z => by cases z
        walk_at "fl.w"
        refine g_iteN (fun _ => ?_) (fun z => absurd z nref)
        walk_at "fl.w"
        have hq := q H2 (sm.trans sm2)
        rw [L2.find_range (mtR fo k run a) hi hmi (fun j hj => hall j hj)] at hq
        exact hq
    · intro σ' H' ⟨⟨u, e⟩, sm, hall⟩
      subst e
      walk_at "fl.w"
      have hq := q H' sm
      rw [L2.find_range_none (mtR fo k run a) (fun j hj => hall j hj)] at hq
      exact hq
end

section
variable {P : Program} {w : World} {K : PySem.W.Frag} {mg : Str → Option Value} {base : Heap}
def pnV (f : FoV) (k : LkV) (run : List ItV) (a : Nat) : List Nat := (List.range a).filter (seeI f k run)
def unV (f : FoV) (k : LkV) (run : List ItV) (a : Nat) : List Nat := ((List.range (run.length - a)).map (a + ·)).filter (seeI f k run)
theorem sn_split {f : FoV} {k : LkV} {run : List ItV} {a : Nat} (ha : a ≤ run.length) : (List.range run.length).filter (seeI f k run) = pnV f k run a ++ unV f k run a := by
  unfold pnV unV
  rw [← List.filter_append]
  congr 1
  rw [← List.range_add]
  congr 1
  omega
theorem un_head {f : FoV} {k : LkV} {run : List ItV} {a : Nat} (ha : a < run.length) (hs : seeI f k run a = true) : ∃ t, unV f k run a = a :: t := by
  unfold unV
  obtain ⟨m, hm⟩ : ∃ m, run.length - a = m + 1 := ⟨run.length - a - 1, by omega⟩
  rw [hm, List.range_succ_eq_map, List.map_cons, List.filter_cons_of_pos (by simpa using hs)]
  exact ⟨_, rfl⟩
theorem pn_lt {f : FoV} {k : LkV} {run : List ItV} {a x : Nat} (h : x ∈ pnV f k run a) : x < a := List.mem_range.mp (List.mem_filter.mp h).1
theorem on_eq {f : FoV} {k : LkV} {r : RuV} {run : List ItV} {a : Nat} : onV f k r run a = (unV f k run a).take (r.inside ++ r.ahead).length := by
  unfold onV unV
  rw [List.length_append]
theorem bk_eq {f : FoV} {k : LkV} {r : RuV} {run : List ItV} {a : Nat} : bkV f k r run a = (pnV f k run a).reverse.take r.back.length := by
  unfold bkV pnV
  rw [List.filter_reverse]
theorem inS_len {run : List ItV} {ix : List Nat} {sl : List (List Int)} (h : ix.length < sl.length) : inS run ix sl = false := by
  unfold inS
  rw [decide_eq_false (by omega)]
  rfl
theorem inS_no {run : List ItV} {ix : List Nat} {sl : List (List Int)} {j x : Nat} {c : List Int} (h1 : ix[j]? = some x) (h2 : sl[j]? = some c) (h : isIn run x c = false) : inS run ix sl = false := by
  unfold inS
  rw [Bool.and_eq_false_iff]
  right
  rw [List.all_eq_false]
  refine ⟨false, ?_, by simp⟩
  have : (List.zipWith (isIn run) ix sl)[j]? = some false := by rw [List.getElem?_zipWith, h1, h2]; simp [h]
  exact List.mem_of_getElem? this
theorem inS_yes {run : List ItV} {ix : List Nat} {sl : List (List Int)} (hl : sl.length ≤ ix.length) (h : ∀ (j x : Nat) (c : List Int), ix[j]? = some x → sl[j]? = some c → isIn run x c = true) : inS run ix sl = true := by
  unfold inS
  rw [decide_eq_true hl, Bool.true_and, List.all_eq_true]
  intro b mb
  obtain ⟨j, hj⟩ := List.getElem?_of_mem mb
  rw [List.getElem?_zipWith] at hj
  cases h1 : ix[j]? with
  | none => rw [h1] at hj; cases hj
  | some x =>
    cases h2 : sl[j]? with
    | none => rw [h1, h2] at hj; cases hj
    | some c =>
      rw [h1, h2] at hj
      cases hj
      exact h j x c h1 h2
theorem cut_ab {xs : List V} (a b : Nat) (h : a ≤ b) : cutV xs (some (a : Int)) (some (b : Int)) = (xs.drop a).take (b - a) := by
  show (xs.drop (HT.sIx xs.length 0 (some (a : Int)))).take (HT.sIx xs.length xs.length (some (b : Int)) - HT.sIx xs.length 0 (some (a : Int))) = _
  rw [HT.sIx_nat, HT.sIx_nat]
  rcases Nat.le_total xs.length a with h1 | h1
  · rw [Nat.min_eq_right h1, List.drop_of_length_le (Nat.le_refl _), List.drop_of_length_le h1]
    simp
  · rw [Nat.min_eq_left h1]
    rcases Nat.le_total xs.length b with h2 | h2
    · rw [Nat.min_eq_right h2, List.take_of_length_le (by rw [List.length_drop]; omega), List.take_of_length_le (by rw [List.length_drop]; omega)]
    · rw [Nat.min_eq_left h2]
theorem g_slAB {K : PySem.W.Frag} {p : Addr} {xs : List V} {i j : Int} {H : Hp} {Q : VK} (a b : Nat) (h : SqL K H p xs) (e1 : i = (a : Int)) (e2 : j = (b : Int)) (hab : a ≤ b) (q : ∀ p, H p = none → Q (.ref p) (upd H p (.lst ((xs.drop a).take (b - a))))) : rSlL K (.ref p) (some i) (some j) H Q := by
  subst e1 e2
  exact g_slL h (by rw [cut_ab a b hab]; exact q)
theorem g_idxI {K : PySem.W.Frag} {x : Int} {p : Addr} {ns : List Int} {H : Hp} {Q : VK} (j : Nat) (h : SqL K H p (ns.map V.int)) (hj : ns[j]? = some x) (hb : ∀ m, m < j → ns[m]? ≠ some x) (q : Q (.int (j : Int)) H) : rIndex K (.ref p) [.int x] H Q := by
  refine ⟨p, ns.map V.int, .int x, j, .int x, rfl, rfl, h, rfl, ints_flat _, ?_, by simp [eqV], fun m z hm hz => ?_, q⟩
  · rw [List.getElem?_map, hj]
    rfl
  · rw [List.getElem?_map] at hz
    cases hw : ns[m]? with
    | none => rw [hw] at hz; cases hz
    | some y =>
      rw [hw] at hz
      cases hz
      have : y ≠ x := fun e => hb m hm (by rw [hw, e])
      simp [eqV, this]
def zI (L : List Nat) : List Int := L.map fun (i : Nat) => (i : Int)
theorem natsE {S : List Addr} {H : Hp} {v : V} {L : List Nat} (h : Dq S H v (natsD L)) : ∃ a, v = .ref a ∧ a ∉ S ∧ H a = some (.lst ((zI L).map V.int)) := by
  obtain ⟨a, xs, rfl, na, ha, hX⟩ := h.lstE
  have := ints_of (L := zI L) (by unfold zI; rw [List.map_map]; exact hX)
  rw [this] at ha
  exact ⟨a, rfl, na, ha⟩
theorem zI_get {L : List Nat} {j x : Nat} (h : L[j]? = some x) : atI ((zI L).map V.int) (j : Int) = some (.int (x : Int)) := by
  refine atI_nat ?_
  unfold zI
  rw [List.getElem?_map, List.getElem?_map, h]
  rfl
theorem setsE {S : List Addr} {H : Hp} {v : V} {sl : List (List Int)} (h : Dq S H v (setsD sl)) : ∃ a xs, v = .ref a ∧ a ∉ S ∧ H a = some (.lst xs) ∧ xs.length = sl.length ∧ ∀ (j : Nat) (c : List Int), sl[j]? = some c → ∃ b, atI xs (j : Int) = some (.ref b) ∧ b ∉ S ∧ H b = some (.lst (c.map V.int)) := by
  obtain ⟨a, xs, rfl, na, ha, hX⟩ := h.lstE
  refine ⟨a, xs, rfl, na, ha, by rw [hX.len, List.length_map], fun j c hj => ?_⟩
  obtain ⟨x, hx, dx⟩ := hX.getD (i := j) (d := .list (c.map .int)) (by rw [List.getElem?_map, hj]; rfl)
  obtain ⟨b, ys, rfl, nb, hb, hY⟩ := dx.lstE
  rw [ints_of (L := c) hY] at hb
  exact ⟨b, atI_nat hx, nb, hb⟩
theorem mem_zI {L : List Nat} {a : Nat} : (a : Int) ∈ zI L ↔ a ∈ L := by
  unfold zI
  rw [List.mem_map]
  constructor
  · rintro ⟨x, hx, e⟩
    rw [show a = x by omega]
    exact hx
  · intro h
    exact ⟨a, h, rfl⟩
theorem zI_len {L : List Nat} : ((zI L).map V.int).length = L.length := by unfold zI; simp
theorem RuT.ins (r : RuV) : llD (r.inside.map iD) = setsD r.inside := by
  unfold llD setsD
  simp only [List.map_map]
  rfl
theorem RuT.bks (r : RuV) : llD (r.back.map iD) = setsD r.back := by
  unfold llD setsD
  simp only [List.map_map]
  rfl
theorem RuT.ahs (r : RuV) : llD (r.ahead.map iD) = setsD r.ahead := by
  unfold llD setsD
  simp only [List.map_map]
  rfl
end
section
/-! ### what the program puts for what it matches -/
def newV (f : FoV) (g : Nat) (b c : Int) : ItV := ⟨g, b, c, ((f.glyphs[g]?).map GlV.adv).getD 0, 0, 0⟩
def ins0 (r : RuV) : List Int := (r.inside[0]?).getD []
def outV (r : RuV) (g : Nat) : Nat := ((r.out[(ins0 r).findIdx (· == (g : Int))]?).getD 0).toNat
def swpV (f : FoV) (r : RuV) (it : ItV) : ItV := newV f (outV r it.g) it.b it.f
def repV (f : FoV) (kind : Str) (r : RuV) (it : ItV) : List ItV := if kind = "single" then [swpV f r it] else r.out.map fun g => newV f g.toNat it.b it.f
def catV (f : FoV) (k : LkV) (it : ItV) : List ItV := match mtV f k [it] 0 [] with
  | none => [it]
  | some i => match k.rules[i]? with
    | none => [it]
    | some r => repV f k.kind r it
def splV (xs ys : List ItV) (p : Nat) : List ItV := xs.take p ++ ys ++ xs.drop (p + 1)
def hdN (L : List Nat) : Nat := (L[0]?).getD 0
def lsN (L : List Nat) : Nat := (L[L.length - 1]?).getD 0
def atN (L : List Nat) (i : Int) : Nat := (L[i.toNat]?).getD 0
def calV1 (f : FoV) (L : List Nat) (c : Int × Int) (made : List ItV) : List ItV := match f.lks[c.2.toNat]?, made[atN L c.1 - hdN L]? with
  | some k, some it => splV made (catV f k it) (atN L c.1 - hdN L)
  | _, _ => made
def midV (run : List ItV) (L : List Nat) : List ItV := (run.drop (hdN L)).take (lsN L + 1 - hdN L)
def calV (f : FoV) (r : RuV) (run : List ItV) (L : List Nat) : List ItV := r.calls.foldr (calV1 f L) (midV run L)
def minV : List Int → Int
  | [] => 0
  | [x] => x
  | x :: y :: l => if x ≤ minV (y :: l) then x else minV (y :: l)
theorem minV_is : ∀ l : List Int, l ≠ [] → IsMin (minV l) l
  | [], h => absurd rfl h
  | [x], _ => ⟨by simp [minV], fun y m => by rw [show y = x by simpa using m]; simp [minV]⟩
  | x :: y :: l, _ => by
    obtain ⟨h1, h2⟩ := minV_is (y :: l) (by simp)
    unfold minV
    split
    · rename_i c
      exact ⟨by simp, fun z m => by
        rcases List.mem_cons.mp m with rfl | m
        · exact Int.le_refl _
        · exact Int.le_trans c (h2 z m)⟩
    · rename_i c
      exact ⟨List.mem_cons_of_mem _ h1, fun z m => by
        rcases List.mem_cons.mp m with rfl | m
        · omega
        · exact h2 z m⟩
def bsV (run : List ItV) (L : List Nat) : List Int := L.map fun j => ((run[j]?).map ItV.b).getD 0
def passV (run : List ItV) (L : List Nat) : List ItV := (List.range (lsN L - hdN L)).filterMap fun i => if (hdN L + i) ∈ L then none else run[hdN L + i]?
def clV (c : Int) (it : ItV) : ItV := ⟨it.g, c, it.f, it.d, it.e, it.x⟩
def fstV (f : FoV) (r : RuV) (run : List ItV) (L : List Nat) : ItV := newV f ((r.out[0]?).getD 0).toNat (minV (bsV run L)) (((run[hdN L]?).map ItV.f).getD 0)
def joiV (f : FoV) (r : RuV) (run : List ItV) (L : List Nat) : List ItV := fstV f r run L :: (passV run L).map (clV (minV (bsV run L)))
def becV (f : FoV) (k : LkV) (r : RuV) (run : List ItV) (L : List Nat) : List ItV :=
  if k.kind = "ligature" then joiV f r run L else if k.kind = "chain" then calV f r run L else match run[hdN L]? with
    | none => []
    | some it => repV f k.kind r it
/-- the items that a rule takes at a -/
def tkV (f : FoV) (k : LkV) (r : RuV) (run : List ItV) (a : Nat) : List Nat := (((List.range (run.length - a)).map (a + ·)).filter (seeI f k run)).take r.inside.length
def wonV (f : FoV) (k : LkV) (fs : List Int) : Nat → List ItV → Nat → List ItV
  | 0, run, _ => run
  | n + 1, run, a => if a < run.length then match mtV f k run a fs with
      | none => wonV f k fs n run (a + 1)
      | some i => match k.rules[i]? with
        | none => run
        | some r => wonV f k fs n (run.take a ++ becV f k r run (tkV f k r run a) ++ run.drop (lsN (tkV f k r run a) + 1)) (a + (becV f k r run (tkV f k r run a)).length)
    else run
def wbk1 (f : FoV) (k : LkV) (fs : List Int) (run : List ItV) (a : Nat) : List ItV := match mtV f k run a fs with
  | none => run
  | some i => match k.rules[i]?, run[a]? with
    | some r, some it => run.set a (swpV f r it)
    | _, _ => run
def wbkV (f : FoV) (k : LkV) (fs : List Int) : Nat → List ItV → List ItV
  | 0, run => run
  | a + 1, run => wbkV f k fs a (wbk1 f k fs run a)
def apV (f : FoV) (k : LkV) (fs : List Int) (run : List ItV) : List ItV := if k.kind = "reverse" then wbkV f k fs run.length run else wonV f k fs run.length run 0
theorem itE {S : List Addr} {H : Hp} {v : V} {it : ItV} (h : Dq S H v it.D) : ∃ t, v = .ref t ∧ t ∉ S ∧ H t = some (.tup [.int it.g, .int it.b, .int it.f, .int it.d, .int it.e, .int it.x]) := by
  obtain ⟨t, zr, rfl, nt, ht, hZ⟩ := h.tupE
  obtain ⟨d1, zr, rfl, h1, hZ⟩ := hZ.consE
  obtain ⟨d2, zr, rfl, h2, hZ⟩ := hZ.consE
  obtain ⟨d3, zr, rfl, h3, hZ⟩ := hZ.consE
  obtain ⟨d4, zr, rfl, h4, hZ⟩ := hZ.consE
  obtain ⟨d5, zr, rfl, h5, hZ⟩ := hZ.consE
  obtain ⟨d6, zr, rfl, h6, hZ⟩ := hZ.consE
  cases hZ.nilE
  cases h1.intE
  cases h2.intE
  cases h3.intE
  cases h4.intE
  cases h5.intE
  cases h6.intE
  exact ⟨t, rfl, nt, ht⟩
theorem itI {S : List Addr} {H : Hp} {t : Addr} {it : ItV} (n : t ∉ S) (h : H t = some (.tup [.int it.g, .int it.b, .int it.f, .int it.d, .int it.e, .int it.x])) : Dq S H (.ref t) it.D :=
  .tup n h (.cons (.int _) (.cons (.int _) (.cons (.int _) (.cons (.int _) (.cons (.int _) (.cons (.int _) .nil))))))
end
section
variable {P : Program} {w : World} {K : PySem.W.Frag} {mg : Str → Option Value} {base : Heap}
local macro_rules | `(tactic| walk_at "fl.t") => `(tactic| (with_reducible refine g_bm ?_))
local macro_rules | `(tactic| walk_at "fl.w") => `(tactic| repeat walk_at "fl.t")
/-- as spD, and the value is a new object -/
def spF (f : List PyData → PyData → Prop) : Sp := fun vs H Q _ => ∃ S ds d, Al S H ∧ DqA S H vs ds ∧ f ds d ∧ ∀ b H', Same H H' → H b = none → Dq S H' (.ref b) d → Q (.ref b) H'
theorem spF_app {f : List PyData → PyData → Prop} {vs : List V} {H : Hp} {Q : VK} {E : XK} (S : List Addr) (ds : List PyData) (d : PyData) (hS : Al S H) (hd : DqA S H vs ds) (hf : f ds d) (q : ∀ b H', Same H H' → H b = none → Dq S H' (.ref b) d → Q (.ref b) H') : spF f vs H Q E := ⟨S, ds, d, hS, hd, hf, q⟩
theorem none_back {H H' : Hp} {p : Addr} (s : Same H H') (e : H' p = none) : H p = none := by
  cases h : H p with
  | none => rfl
  | some o => rw [s _ _ h] at e; cases e
def fNi (c : Cs) (ds : List PyData) (d : PyData) : Prop := ∃ (f : FoV) (g : Nat) (b fo : Int) (gl : GlV), ds = [foD c f.R, .int (g : Int), .int b, .int fo] ∧ f.glyphs[g]? = some gl ∧ d = (newV f g b fo).D
theorem ok_new_item (T : Txt K mg) : Has P w K mg base 1 "new_item" ps_new_item (spD (fNi (cs mg))) := by
  obtain ⟨_, _, _, _, _, _, _, _, _, _, _, _, _, _, cF⟩ := T.c_Font
  have clF := cF.cl
  have naF := cF.na
  obtain ⟨_, _, _, _, _, _, _, _, cG⟩ := T.c_Glyph
  have clG := cG.cl
  have naG := cG.na
  refine has_of T.d_new_item sc_new_item bd_new_item (fun vs H Q E h => ?_) (fun f cdv A outer s H vs Q E hr h => ?_)
  · obtain ⟨S, ds, d, _, hd, ⟨f, g, b, c, gl, rfl, _⟩, _⟩ := h
    rw [hd.len]
    rfl
  · obtain ⟨S, ds, d, hS, hd, ⟨fo, g, b, c, gl, rfl, hg, rfl⟩, q⟩ := h
    obtain ⟨v1, _, rfl, h1, hd⟩ := hd.consE
    obtain ⟨v2, _, rfl, h2, hd⟩ := hd.consE
    obtain ⟨v3, _, rfl, h3, hd⟩ := hd.consE
    obtain ⟨v4, _, rfl, h4, hd⟩ := hd.consE
    cases hd.nilE
    cases h2.intE
    cases h3.intE
    cases h4.intE
    obtain ⟨fa, fdx, w1, w2, w3, w4, w5, w6, w7, w8, w9, rfl, fna, fA, j1, j2, j3, j4, j5, j6, j7, j8, j9⟩ := foE h1
    obtain ⟨gb, gs, rfl, hgb, hgl, hgD⟩ := lstN j2
    obtain ⟨xg, hxg, hxgD⟩ := hgD.getD (i := g) (d := glD (cs mg) gl.R) (by show ((fo.glyphs.map GlV.R).map _)[g]? = _; rw [List.getElem?_map, List.getElem?_map, hg]; rfl)
    obtain ⟨ga, gdx, u1, u2, u3, u4, u5, u6, u7, rfl, _, hgA, k1, k2, k3, k4, k5, k6, k7⟩ := glE hxgD
    cases k1.intE
    have hatg : atI gs (g : Int) = some (.ref ga) := atI_nat (j := g) hxg
    refine ⟨_, (pss_one (ps_ret (pe_tup (pa_cons (pv 1) (pa_cons (pv 2) (pa_cons (pv 3) (pa_cons (peFld (K := K) rfl (pe_ix (ixL (K := K) rfl) (peFld (K := K) rfl (pv 0) rfl) (pv 1) (fun _ _ => rfl)) rfl) (pa_cons pe_int (pa_cons pe_int pa_nil))))))))), ?_⟩
    walk_at "fl.w"
    rename_i p hp
    refine q _ _ (Fl.Same.new hp) ?_
    have e : newV fo g b c = ⟨g, b, c, gl.adv, 0, 0⟩ := by unfold newV; rw [hg]; rfl
    rw [e]
    exact itI (it := ⟨g, b, c, gl.adv, 0, 0⟩) (hS.ni hp) upd_same
/-- a rule's first set holds the glyph, and each glyph of it has one that is put for it -/
structure SwOk (f : FoV) (r : RuV) (g : Nat) : Prop where
  e : ∃ s0, r.inside[0]? = some s0 ∧ (g : Int) ∈ s0 ∧ r.out.length = s0.length
  o : ∀ x, x ∈ r.out → 0 ≤ x ∧ x < f.glyphs.length
theorem SwOk.get {f : FoV} {r : RuV} {g : Nat} (h : SwOk f r g) : ∃ (s0 : List Int) (j : Nat), r.inside[0]? = some s0 ∧ s0[j]? = some (g : Int) ∧ (∀ m, m < j → s0[m]? ≠ some (g : Int)) ∧ r.out[j]? = some (outV r g : Int) ∧ outV r g < f.glyphs.length := by
  obtain ⟨s0, e, m, hl⟩ := h.e
  have hlt : s0.findIdx (· == (g : Int)) < s0.length := List.findIdx_lt_length_of_exists ⟨_, m, by simp⟩
  have e0 : ins0 r = s0 := by unfold ins0; rw [e]; rfl
  have ho : r.out[s0.findIdx (· == (g : Int))]? = some r.out[s0.findIdx (· == (g : Int))] := List.getElem?_eq_getElem (by omega)
  obtain ⟨b1, b2⟩ := h.o _ (List.mem_of_getElem? ho)
  have ev : outV r g = (r.out[s0.findIdx (· == (g : Int))]'(by omega)).toNat := by unfold outV; rw [e0, ho]; rfl
  refine ⟨s0, s0.findIdx (· == (g : Int)), e, ?_, fun i hi z => ?_, ?_, by omega⟩
  · rw [List.getElem?_eq_getElem hlt]
    have := List.findIdx_getElem (xs := s0) (p := (· == (g : Int))) (w := hlt)
    simpa using this
  · have := List.not_of_lt_findIdx hi
    rw [List.getElem?_eq_getElem (by omega)] at z
    simp only [Option.some.injEq] at z
    simp [z] at this
  · rw [ho, ev]
    congr 1
    omega
def fSw (c : Cs) (ds : List PyData) (d : PyData) : Prop := ∃ (f : FoV) (r : RuV) (it : ItV), ds = [foD c f.R, insD c.R r.R.F, it.D] ∧ SwOk f r it.g ∧ d = (swpV f r it).D
theorem ok_swapped (T : Txt K mg) : Has P w K mg base 2 "swapped" ps_swapped (spD (fSw (cs mg))) := by
  obtain ⟨_, _, _, _, _, _, _, _, cR⟩ := T.c_Rule
  have clR := cR.cl
  have naR := cR.na
  have h_new_item := ok_new_item (P := P) (w := w) (base := base) T
  refine has_of T.d_swapped sc_swapped bd_swapped (fun vs H Q E h => ?_) (fun f cdv A outer s H vs Q E hr h => ?_)
  · obtain ⟨S, ds, d, _, hd, ⟨f, r, it, rfl, _⟩, _⟩ := h
    rw [hd.len]
    rfl
  · obtain ⟨S, ds, d, hS, hd, ⟨fo, r, it, rfl, so, rfl⟩, q⟩ := h
    obtain ⟨v1, _, rfl, h1, hd⟩ := hd.consE
    obtain ⟨v2, _, rfl, h2, hd⟩ := hd.consE
    obtain ⟨v3, _, rfl, h3, hd⟩ := hd.consE
    cases hd.nilE
    obtain ⟨ra, rdx, u1, u2, u3, u4, u5, u6, rfl, rna, rA, k1, k2, k3, k4, k5, k6⟩ := ruE h2
    rw [RuV.ins] at k1
    obtain ⟨b1, xs1, rfl, nb1, hb1, lb1, gb1⟩ := setsE k1
    obtain ⟨ob, os, rfl, nob, hob, hO⟩ := k4.lstE
    obtain rfl := ints_of (L := r.out) hO
    obtain ⟨t, rfl, nt, ht⟩ := itE h3
    obtain ⟨s0, j, e0, ej, hj, eo, ol⟩ := so.get
    obtain ⟨sa, hat0, nsa, hsa⟩ := gb1 0 s0 e0
    obtain ⟨gl, hgl⟩ : ∃ gl, fo.glyphs[outV r it.g]? = some gl := ⟨_, List.getElem?_eq_getElem ol⟩
    have hatO : atI (r.out.map V.int) (j : Int) = some (.int (outV r it.g : Int)) := atI_nat (j := j) (by rw [List.getElem?_map, eo]; rfl)
    have hat0' : atI xs1 0 = some (.ref sa) := hat0
    refine ⟨_, (pss_cons (ps_set (i := 3) sc_swapped.nd rfl (.inl rfl) (pe_ix (ixL (K := K) rfl) (peFld (K := K) rfl (pv 1) rfl) (pe_bm PySem.F.plainAttrs_list PySem.F.slot_list_index PySem.F.type_list_index mt_index (pe_ix (ixL (K := K) rfl) (peFld (K := K) rfl (pv 1) rfl) pe_int (fun _ _ => rfl)) (pa_cons (pe_ix (ixT (K := K) rfl) (pv 2) pe_int (fun _ _ => rfl)) pa_nil)) (fun _ _ => rfl)))
      (pss_one (ps_ret (pe_h h_new_item (hr.mono (by decide)) (pa_cons (pv 0) (pa_cons (pv 3) (pa_cons (pe_ix (ixT (K := K) rfl) (pv 2) pe_int (fun _ _ => rfl)) (pa_cons (pe_ix (ixT (K := K) rfl) (pv 2) pe_int (fun _ _ => rfl)) pa_nil)))))))), ?_⟩
    walk_at "fl.w"
    refine g_idxI j (SqL.of hsa) ej hj ?_
    walk_at "fl.w"
    refine spD_app S [foD (cs mg) fo.R, .int (outV r it.g : Int), .int it.b, .int it.f] (swpV fo r it).D hS (.cons h1 (.cons (.int _) (.cons (.int _) (.cons (.int _) .nil)))) ⟨fo, outV r it.g, it.b, it.f, gl, rfl, hgl, rfl⟩ (fun v H2 sm hv => ?_)
    walk_at "fl.w"
    exact q _ _ sm hv
/-- what replaced may be asked -/
structure RpOk (f : FoV) (kind : Str) (r : RuV) (g : Nat) : Prop where
  s : kind = "single" → SwOk f r g
  o : ∀ x, x ∈ r.out → 0 ≤ x ∧ x < f.glyphs.length
  l : r.out.length ≤ 8
def fRp (c : Cs) (ds : List PyData) (d : PyData) : Prop := ∃ (f : FoV) (kind : Str) (r : RuV) (it : ItV), ds = [foD c f.R, .str kind, insD c.R r.R.F, it.D] ∧ RpOk f kind r it.g ∧ d = ruD (repV f kind r it)
theorem ok_replaced (T : Txt K mg) : Has P w K mg base 3 "replaced" ps_replaced (spF (fRp (cs mg))) := by
  obtain ⟨_, _, _, _, _, _, _, _, cR⟩ := T.c_Rule
  have clR := cR.cl
  have naR := cR.na
  have h_new_item := ok_new_item (P := P) (w := w) (base := base) T
  have h_swapped := ok_swapped (P := P) (w := w) (base := base) T
  refine has_of T.d_replaced sc_replaced bd_replaced (fun vs H Q E h => ?_) (fun f cdv A outer s H vs Q E hr h => ?_)
  · obtain ⟨S, ds, d, _, hd, ⟨f, kd, r, it, rfl, _⟩, _⟩ := h
    rw [hd.len]
    rfl
  · obtain ⟨S, ds, d, hS, hd, ⟨fo, kd, r, it, rfl, so, rfl⟩, q⟩ := h
    obtain ⟨v1, _, rfl, h1, hd⟩ := hd.consE
    obtain ⟨v2, _, rfl, h2, hd⟩ := hd.consE
    obtain ⟨v3, _, rfl, h3, hd⟩ := hd.consE
    obtain ⟨v4, _, rfl, h4, hd⟩ := hd.consE
    cases hd.nilE
    cases h2
    have h3' := h3
    have h4' := h4
    obtain ⟨ra, rdx, u1, u2, u3, u4, u5, u6, rfl, rna, rA, k1, k2, k3, k4, k5, k6⟩ := ruE h3'
    obtain ⟨ob, os, rfl, nob, hob, hO⟩ := k4.lstE
    have k4' : Dq S H (.ref ob) (.list (r.out.map PyData.int)) := .lst nob hob hO
    obtain ⟨t, rfl, nt, ht⟩ := itE h4'
    refine ⟨_, (pss_cons (ps_if (pt_cmpR op_eq (pv 1) pe_str (nomark _))
        (pss_one (ps_ret (pe_lst (pa_cons (pe_h h_swapped (hr.mono (by decide)) (pa_cons (pv 0) (pa_cons (pv 2) (pa_cons (pv 3) pa_nil)))) pa_nil))))
        pss_nil)
      (pss_one (ps_ret (pe_lc (own := [("glyph", 4)]) rfl sc_replaced.nd (piL (K := K) rfl (peFld (K := K) rfl (pv 2) rfl)) (blkOk_by (by kernel_rfl)) (fun _ _ _ _ _ => (pg_name (i := 4) sc_replaced.nd rfl (.inl rfl))) (fun _ _ _ _ _ => pts_nil) (fun _ _ _ _ _ => (pe_h h_new_item (hr.mono (by decide)) (pa_cons (pv 0) (pa_cons (pv 4) (pa_cons (pe_ix (ixT (K := K) rfl) (pv 3) pe_int (fun _ _ => rfl)) (pa_cons (pe_ix (ixT (K := K) rfl) (pv 3) pe_int (fun _ _ => rfl)) pa_nil)))))))))), ?_⟩
    walk_at "fl.w"
    by_cases c : kd = "single"
    · subst c
      first | refine g_eqS (b := true) rfl ?_ | refine g_yesB rfl ?_
      walk_at "fl.w"
      refine spD_app S [foD (cs mg) fo.R, insD (cs mg).R r.R.F, it.D] (swpV fo r it).D hS (.cons h1 (.cons h3 (.cons h4 .nil))) ⟨fo, r, it, rfl, so.s rfl, rfl⟩ (fun v H2 sm hv => ?_)
      walk_at "fl.w"
      rename_i p hp
      have e : repV fo "single" r it = [swpV fo r it] := by unfold repV; rw [if_pos rfl]
      rw [e] at q
      exact q _ _ (sm.trans (Fl.Same.new hp)) (none_back sm hp) (.newL (hS.same sm) hp (.cons hv .nil))
    · first | refine g_eqS (b := false) (decide_eq_false c) ?_ | refine g_noB c ?_
      walk_at "fl.w"
      have e : repV fo kd r it = r.out.map fun g => newV fo g.toNat it.b it.f := by unfold repV; rw [if_neg c]
      rw [e] at q
      have hl8 := so.l
      refine lcL (S := S) (fun i => (r.out[i]?).map fun g => (newV fo g.toNat it.b it.f).D) hS k4' (by rw [List.length_map]; omega) ?_ ?_
      · intro D i x e0 H2 hD he sm al hx R N hR hN
        rw [List.getElem?_map] at he
        cases hi : r.out[i]? with
        | none => rw [hi] at he; cases he
        | some g =>
          rw [hi] at he
          cases he
          cases hx.intE
          obtain ⟨g0, g1⟩ := so.o g (List.mem_of_getElem? hi)
          obtain ⟨gl, hgl⟩ : ∃ gl, fo.glyphs[g.toNat]? = some gl := ⟨_, List.getElem?_eq_getElem (by omega)⟩
          have eg : g = ((g.toNat : Nat) : Int) := by omega
          have ht2 := sm _ _ ht
          refine g_name ⟨rfl, ?_⟩
          walk_at "fl.w"
          refine spD_app (D :: S) [foD (cs mg) fo.R, .int g, .int it.b, .int it.f] (newV fo g.toNat it.b it.f).D al (.cons ((h1.new hD).same sm) (.cons (.int _) (.cons (.int _) (.cons (.int _) .nil)))) ⟨fo, g.toNat, it.b, it.f, gl, by rw [← eg], hgl, rfl⟩ (fun v H3 sm3 hv => ?_)
          walk_at "fl.w"
          exact hR _ _ _ (by rw [hi]; rfl) sm3 hv
      · intro D H2 sm hD hq
        rw [fm_ltA (by rw [List.length_map])] at hq
        refine q _ _ sm hD ?_
        unfold ruD
        rw [List.map_map]
        exact hq
end

section
variable {P : Program} {w : World} {K : PySem.W.Frag} {mg : Str → Option Value} {base : Heap}
local macro_rules | `(tactic| walk_at "fl.t") => `(tactic| (with_reducible refine g_bm ?_))
local macro_rules | `(tactic| walk_at "fl.w") => `(tactic| repeat walk_at "fl.t")
theorem opCatT {X : Cx} {K : PySem.W.Frag} (e : X.K = K) : OpR X (binaryOp .Add) (rCatT K) := by subst e; exact op_catT
theorem g_slTF {K : PySem.W.Frag} {a : Addr} {xs : List V} {k : Nat} {H : Hp} {Q : VK} (h : SqT K H a xs) (hk : 0 < k) (hx : xs ≠ []) (q : ∀ p, H p = none → Q (.ref p) (upd H p (.tup (xs.drop k)))) : rSlT K (.ref a) (some (k : Int)) none H Q := by
  refine g_slT h (fun z => ?_) (by rw [cut_from]; exact q)
  have h1 : HT.sIx xs.length 0 (some (k : Int)) = min k xs.length := HT.sIx_nat ..
  have h2 := z.1
  rw [h1] at h2
  have := List.length_pos_iff.mpr hx
  omega
theorem zI_last {L : List Nat} (h : L ≠ []) : atI ((zI L).map V.int) (-1) = some (.int (lsN L : Int)) := by
  have hp := List.length_pos_iff.mpr h
  have hl : L[L.length - 1]? = some (L[L.length - 1]'(by omega)) := List.getElem?_eq_getElem (by omega)
  have e : lsN L = L[L.length - 1]'(by omega) := by unfold lsN; rw [hl]; rfl
  have hq : ((zI L).map V.int)[L.length - 1]? = some (.int (lsN L : Int)) := by
    unfold zI
    rw [List.getElem?_map, List.getElem?_map, hl, e]
    rfl
  have hlen : ((zI L).map V.int).length = L.length := zI_len
  have ne : (zI L).map V.int ≠ [] := fun z => by rw [z] at hlen; simp at hlen; omega
  have e2 : (zI L).map V.int = ((zI L).map V.int).dropLast ++ [V.int (lsN L : Int)] := by
    have h3 : ((zI L).map V.int).getLast ne = V.int (lsN L : Int) := by
      rw [List.getLast_eq_getElem]
      have h4 := List.getElem?_eq_getElem (l := (zI L).map V.int) (i := L.length - 1) (by omega)
      rw [hq] at h4
      simp only [hlen]
      exact (Option.some.inj h4).symm
    rw [← h3]
    exact (List.dropLast_concat_getLast ne).symm
  rw [e2]
  exact atI_last _ _
theorem zI_hd {L : List Nat} (h : L ≠ []) : atI ((zI L).map V.int) 0 = some (.int (hdN L : Int)) := by
  have hp := List.length_pos_iff.mpr h
  have hl : L[0]? = some (L[0]'(by omega)) := List.getElem?_eq_getElem (by omega)
  have e : hdN L = L[0]'(by omega) := by unfold hdN; rw [hl]; rfl
  exact atI_nat (j := 0) (by unfold zI; rw [List.getElem?_map, List.getElem?_map, hl, e]; rfl)
theorem hd_mem {L : List Nat} (h : L ≠ []) : hdN L ∈ L := by
  have hp := List.length_pos_iff.mpr h
  have hl : L[0]? = some (L[0]'(by omega)) := List.getElem?_eq_getElem (by omega)
  have e : hdN L = L[0]'(by omega) := by unfold hdN; rw [hl]; rfl
  rw [e]
  exact List.getElem_mem _
theorem ls_mem {L : List Nat} (h : L ≠ []) : lsN L ∈ L := by
  have hp := List.length_pos_iff.mpr h
  have hl : L[L.length - 1]? = some (L[L.length - 1]'(by omega)) := List.getElem?_eq_getElem (by omega)
  have e : lsN L = L[L.length - 1]'(by omega) := by unfold lsN; rw [hl]; rfl
  rw [e]
  exact List.getElem_mem _
/-- the places of a match -/
structure PlOk (run : List ItV) (L : List Nat) : Prop where
  ne : L ≠ []
  lt : ∀ j, j ∈ L → j < run.length
  le : hdN L ≤ lsN L
  len : L.length ≤ 8
theorem run_at {S : List Addr} {H : Hp} {xs : List V} {run : List ItV} {j : Nat} (hX : DqA S H xs (run.map ItV.D)) (hj : j < run.length) : ∃ it t, run[j]? = some it ∧ atI xs (j : Int) = some (.ref t) ∧ t ∉ S ∧ H t = some (.tup [.int it.g, .int it.b, .int it.f, .int it.d, .int it.e, .int it.x]) := by
  obtain ⟨it, hit⟩ : ∃ it, run[j]? = some it := ⟨_, List.getElem?_eq_getElem hj⟩
  obtain ⟨xv, hxv, hxD⟩ := hX.getD (i := j) (d := it.D) (by rw [List.getElem?_map, hit]; rfl)
  obtain ⟨t, rfl, nt, ht⟩ := itE hxD
  exact ⟨it, t, hit, atI_nat (j := j) hxv, nt, ht⟩
def fJo (c : Cs) (ds : List PyData) (d : PyData) : Prop := ∃ (f : FoV) (r : RuV) (run : List ItV) (L : List Nat), ds = [foD c f.R, insD c.R r.R.F, ruD run, natsD L] ∧ r.out.length = 1 ∧ (∀ x, x ∈ r.out → 0 ≤ x ∧ x < f.glyphs.length) ∧ run.length < 1000 ∧ PlOk run L ∧ d = ruD (joiV f r run L)
theorem ok_joined (T : Txt K mg) : Has P w K mg base 3 "joined" ps_joined (spF (fJo (cs mg))) := by
  obtain ⟨_, _, _, _, _, _, _, _, cR⟩ := T.c_Rule
  have clR := cR.cl
  have naR := cR.na
  have h_new_item := ok_new_item (P := P) (w := w) (base := base) T
  refine has_of T.d_joined sc_joined bd_joined (fun vs H Q E h => ?_) (fun f cdv A outer s H vs Q E hr h => ?_)
  · obtain ⟨S, ds, d, _, hd, ⟨f, r, run, L, rfl, _⟩, _⟩ := h
    rw [hd.len]
    rfl
  · obtain ⟨S, ds, d, hS, hd, ⟨fo, r, run, L, rfl, ho1, hog, hrl, pl, rfl⟩, q⟩ := h
    obtain ⟨v1, _, rfl, h1, hd⟩ := hd.consE
    obtain ⟨v2, _, rfl, h2, hd⟩ := hd.consE
    obtain ⟨v3, _, rfl, h3, hd⟩ := hd.consE
    obtain ⟨v4, _, rfl, h4, hd⟩ := hd.consE
    cases hd.nilE
    have h3' := h3
    have h4' := h4
    obtain ⟨ra, rdx, u1, u2, u3, u4, u5, u6, rfl, rna, rA, k1, k2, k3, k4, k5, k6⟩ := ruE h2
    obtain ⟨ob, os, rfl, nob, hob, hO⟩ := k4.lstE
    obtain rfl := ints_of (L := r.out) hO
    obtain ⟨rr, xs, rfl, nr, hr', hX⟩ := h3'.lstE
    obtain ⟨la, rfl, nla, hla⟩ := natsE h4'
    have hL0 := zI_hd pl.ne
    have hL1 := zI_last pl.ne
    have hplt := pl.lt
    have hple := pl.le
    have hpln := pl.len
    obtain ⟨g0, hg0⟩ : ∃ g0, r.out[0]? = some g0 := ⟨_, List.getElem?_eq_getElem (by omega)⟩
    obtain ⟨g00, g01⟩ := hog g0 (List.mem_of_getElem? hg0)
    have eg : g0 = ((g0.toNat : Nat) : Int) := by omega
    obtain ⟨gl, hgl⟩ : ∃ gl, fo.glyphs[g0.toNat]? = some gl := ⟨_, List.getElem?_eq_getElem (by omega)⟩
    have hatO : atI (r.out.map V.int) 0 = some (.int g0) := atI_nat (j := 0) (by rw [List.getElem?_map, hg0]; rfl)
    obtain ⟨ith, th, hith, hath, _, hth⟩ := run_at hX (pl.lt _ (hd_mem pl.ne))
    have lsl := pl.lt _ (ls_mem pl.ne)
    refine ⟨_, (pss_cons (ps_set (i := 4) sc_joined.nd rfl (.inr rfl) (pe_callB (clMin (K := K) rfl rfl) (by rfl) T.z_min (by decide +kernel) (pa_cons (pe_lc (own := [("index", 7)]) rfl sc_joined.nd (piL (K := K) rfl (pv 3)) (blkOk_by (by kernel_rfl)) (fun _ _ _ _ _ => (pg_name (i := 7) sc_joined.nd rfl (.inl rfl))) (fun _ _ _ _ _ => pts_nil) (fun _ _ _ _ _ => (pe_ix (ixT (K := K) rfl) (pe_ix (ixL (K := K) rfl) (pv 2) (pv 7) (fun _ _ => rfl)) pe_int (fun _ _ => rfl)))) pa_nil)))
      (pss_cons (ps_setLc (i := 5) (own := [("index", 7)]) rfl sc_joined.nd rfl rfl (sw_true rfl rfl rfl (by decide +kernel)) (pi_range2 (by rfl) T.z_range (pa_cons (pe_ix (ixL (K := K) rfl) (pv 3) pe_int (fun _ _ => rfl)) (pa_cons (pe_ix (ixL (K := K) rfl) (pv 3) (pe_un un_neg pe_int) (fun _ _ => rfl)) pa_nil))) (blkOk_by (by kernel_rfl)) (fun _ _ _ _ _ => (pg_name (i := 7) sc_joined.nd rfl (.inl rfl))) (fun _ _ _ _ _ => (pts_one (pt_cmpR (opNotIn (K := K) rfl) (pv 7) (pv 3) (by rfl)))) (fun _ _ _ _ _ => (pe_ix (ixL (K := K) rfl) (pv 2) (pv 7) (fun _ _ => rfl))))
      (pss_cons (ps_set (i := 6) sc_joined.nd rfl (.inl rfl) (pe_h h_new_item (hr.mono (by decide)) (pa_cons (pv 0) (pa_cons (pe_ix (ixL (K := K) rfl) (peFld (K := K) rfl (pv 1) rfl) pe_int (fun _ _ => rfl)) (pa_cons (pv 4) (pa_cons (pe_ix (ixT (K := K) rfl) (pe_ix (ixL (K := K) rfl) (pv 2) (pe_ix (ixL (K := K) rfl) (pv 3) pe_int (fun _ _ => rfl)) (fun _ _ => rfl)) pe_int (fun _ _ => rfl)) pa_nil))))))
      (pss_one (ps_ret (pe_op op_cat (pe_lst (pa_cons (pv 6) pa_nil)) (pe_lc (own := [("item", 8)]) rfl sc_joined.nd (piL (K := K) rfl (pv 5)) (blkOk_by (by kernel_rfl)) (fun _ _ _ _ _ => (pg_name (i := 8) sc_joined.nd rfl (.inl rfl))) (fun _ _ _ _ _ => pts_nil) (fun _ _ _ _ _ => (pe_op (opCatT (K := K) rfl) (pe_tup (pa_cons (pe_ix (ixT (K := K) rfl) (pv 8) pe_int (fun _ _ => rfl)) (pa_cons (pv 4) pa_nil))) (pe_slice (slT' (K := K) rfl) (pv 8) (po_some pe_int) po_none)))))))))), ?_⟩
    walk_at "fl.w"
    refine lcL (S := S) (es := L.map fun (i : Nat) => PyData.int (i : Int)) (fun i => ((bsV run L)[i]?).map PyData.int) hS h4 (by rw [List.length_map]; omega) ?_ ?_
    · intro D i x e0 H2 hD he sm al hx R N hR hN
      rw [List.getElem?_map] at he
      cases hi : L[i]? with
      | none => rw [hi] at he; cases he
      | some j =>
        rw [hi] at he
        cases he
        cases hx.intE
        obtain ⟨it, t, hit, hat, _, ht⟩ := run_at hX (pl.lt j (List.mem_of_getElem? hi))
        have hr2 := sm _ _ hr'
        have ht2 := sm _ _ ht
        refine g_name ⟨rfl, ?_⟩
        walk_at "fl.w"
        exact hR _ _ _ (by unfold bsV; rw [List.getElem?_map, hi]; show some (PyData.int (((run[j]?).map ItV.b).getD 0)) = _; rw [hit]; rfl) (L2.Same.refl _) (.int _)
    intro D H2 sm hD hq
    rw [fm_ltA (by unfold bsV; rw [List.length_map, List.length_map])] at hq
    obtain ⟨_, ys, ey, nD, hys, hY⟩ := hq.lstE
    cases ey
    obtain rfl := ints_of (L := bsV run L) hY
    have nb : bsV run L ≠ [] := fun z => pl.ne (by unfold bsV at z; simpa using z)
    refine g_minL (SqL.of hys) (minV_is _ nb) ?_
    have hla2 := sm _ _ hla
    have hr2 := sm _ _ hr'
    have rA2 := sm _ _ rA
    have hob2 := sm _ _ hob
    have hth2 := sm _ _ hth
    have h12 := h1.same sm
    have hX2 := hX.same sm
    have al2 := hS.same sm
    walk_at "fl.w"
    generalize hN : ((lsN L : Int) - (hdN L : Int)).toNat = N
    have hN2 : N = lsN L - hdN L := by omega
    refine lcR (S := S) (fun i => if (hdN L + i) ∈ L then none else (run[hdN L + i]?).map ItV.D) al2 (by omega) ?_ ?_
    · intro D2 i H3 hD2 hi sm3 al3 R N' hR hN'
      obtain ⟨it, t, hit, hat, nt, ht⟩ := run_at hX2 (show hdN L + i < run.length by omega)
      have hla3 := sm3 _ _ hla2
      have hr3 := sm3 _ _ hr2
      have ht3 := sm3 _ _ ht
      refine g_name ⟨rfl, ?_⟩
      rw [show (hdN L : Int) + (i : Int) = ((hdN L + i : Nat) : Int) by omega]
      walk_at "fl.w"
      refine g_ninI (.inl (SqL.of hla3)) ?_
      by_cases c : (hdN L + i) ∈ L
      · have c2 : ((hdN L + i : Nat) : Int) ∈ zI L := mem_zI.mpr c
        walk_at "fl.w"
        refine g_iteN (fun z => absurd c2 z) (fun _ => ?_)
        walk_at "fl.w"
        exact hN' (by rw [if_pos c]) _ (L2.Same.refl _)
      · have c2 : ¬ ((hdN L + i : Nat) : Int) ∈ zI L := fun z => c (mem_zI.mp z)
        walk_at "fl.w"
        refine g_iteN (fun _ => ?_) (fun z => absurd z c2)
        walk_at "fl.w"
        exact hR _ _ _ (by rw [if_neg c, hit]; rfl) (L2.Same.refl _) (itI (fun m => by
          rcases List.mem_cons.mp m with e | m
          · rw [e, hD2] at ht; cases ht
          · exact nt m) ht3)
    intro D2 H3 sm3 hD2 hq2
    have ep : (List.range N).filterMap (fun i => if (hdN L + i) ∈ L then none else (run[hdN L + i]?).map ItV.D) = (passV run L).map ItV.D := by
      unfold passV
      rw [hN2, List.map_filterMap]
      congr 1
      funext i
      split <;> simp
    rw [ep] at hq2
    have rA3 := sm3 _ _ rA2
    have hob3 := sm3 _ _ hob2
    have hla3 := sm3 _ _ hla2
    have hr3 := sm3 _ _ hr2
    have hth3 := sm3 _ _ hth2
    have al3 := al2.same sm3
    walk_at "fl.w"
    refine spD_app S [foD (cs mg) fo.R, .int g0, .int (minV (bsV run L)), .int ith.f] (fstV fo r run L).D al3 (.cons (h12.same sm3) (.cons (.int _) (.cons (.int _) (.cons (.int _) .nil)))) ⟨fo, g0.toNat, _, _, gl, by rw [← eg], hgl, by unfold fstV; rw [hg0, hith]; rfl⟩ (fun v H4 sm4 hv => ?_)
    walk_at "fl.w"
    rename_i p hp
    have al5 := (al3.same sm4).newH (u := .lst [v]) hp
    have s35 := sm4.trans (Fl.Same.new (o := .lst [v]) hp)
    have hq5 := hq2.same s35
    have hp5 := upd_same (H := H4) (a := p) (o := .lst [v])
    have hv5 := hv.newH (u := .lst [v]) hp
    generalize upd H4 p (.lst [v]) = H5 at al5 s35 hq5 hp5 hv5 ⊢
    obtain ⟨_, zz, ezz, _, hzz, _⟩ := id hq5.lstE
    cases ezz
    have hpl2 : (passV run L).length < 1000 := by
      unfold passV
      have := List.length_filterMap_le (fun i => if (hdN L + i) ∈ L then none else run[hdN L + i]?) (List.range (lsN L - hdN L))
      rw [List.length_range] at this
      omega
    walk_at "fl.w"
    refine lcL (S := S) (fun i => ((passV run L)[i]?).map fun it => (clV (minV (bsV run L)) it).D) al5 hq5 (by rw [List.length_map]; omega) ?_ ?_
    · intro D3 i x e0 H6 hD3 he sm6 al6 hx R N hR hN
      rw [List.getElem?_map] at he
      cases hi : (passV run L)[i]? with
      | none => rw [hi] at he; cases he
      | some it =>
        rw [hi] at he
        cases he
        obtain ⟨t, rfl, nt, ht⟩ := itE hx
        refine g_name ⟨rfl, ?_⟩
        walk_at "fl.w"
        rename_i p6 hp6
        have ht7 := raw_new (u := .tup [V.int it.g, V.int (minV (bsV run L))]) hp6 ht
        refine g_slTF (k := 2) (SqT.of ht7) (by omega) (by simp) (fun p7 hp7 => ?_)
        have ht8 := raw_new (u := .tup [V.int it.f, .int it.d, .int it.e, .int it.x]) hp7 (upd_same (H := H6) (a := p6) (o := .tup [V.int it.g, V.int (minV (bsV run L))]))
        refine ⟨p6, p7, _, [V.int it.f, .int it.d, .int it.e, .int it.x], rfl, rfl, SqT.of ht8, SqT.of upd_same, by simp, show (6 : Nat) ≤ sizeLine by decide, fun z => (by cases z), fun _ p8 hp8 => ?_⟩
        exact hR _ _ _ (by rw [hi]; rfl) ((Fl.Same.new hp6).trans ((Fl.Same.new hp7).trans (Fl.Same.new hp8))) (itI (it := clV (minV (bsV run L)) it) (al6.ni (by
          have z := hp8
          by_cases e : p8 = p7
          · rw [e, upd_same] at z; cases z
          · rw [upd_ne e] at z
            by_cases e : p8 = p6
            · rw [e, upd_same] at z; cases z
            · rw [upd_ne e] at z; exact z)) upd_same)
    intro D3 H6 sm6 hD3 hq6
    rw [fm_ltA (by rw [List.length_map])] at hq6
    obtain ⟨_, zs, ez, nD3, hzs, hZ⟩ := hq6.lstE
    cases ez
    have lz := hZ.len
    rw [List.length_map] at lz
    have hp6 := sm6 _ _ hp5
    refine g_cat hp6 hzs (by simp only [List.length_cons, List.length_nil]; omega) fun p9 hp9 => ?_
    walk_at "fl.w"
    refine q _ _ (sm.trans (sm3.trans (s35.trans (sm6.trans (Fl.Same.new hp9))))) (none_back (sm.trans (sm3.trans (s35.trans sm6))) hp9) ?_
    unfold ruD joiV
    rw [List.map_cons, List.map_map]
    exact .newL ((al5.same sm6)) hp9 (.cons (hv5.same sm6) hZ)
end

section
theorem mt_some {f : FoV} {k : LkV} {run : List ItV} {a : Nat} {fs : List Int} {i : Nat} (h : mtV f k run a fs = some i) : ∃ r L, k.rules[i]? = some r ∧ matV f k r run a = some L := by
  unfold mtV at h
  split at h
  · cases h
  · have h1 := List.find?_some h
    unfold mtR at h1
    cases hr : k.rules[i]? with
    | none => rw [hr] at h1; cases h1
    | some r =>
      rw [hr] at h1
      obtain ⟨L, hL⟩ := Option.isSome_iff_exists.mp h1
      exact ⟨r, L, rfl, hL⟩
structure TkOk (f : FoV) (k : LkV) (r : RuV) (run : List ItV) (a : Nat) (L : List Nat) : Prop where
  e : L = tkV f k r run a
  len : L.length = r.inside.length
  hd : ∃ t, L = a :: t
  mem : ∀ x, x ∈ L → a ≤ x ∧ x < run.length
  up : L.Pairwise (· < ·)
  isin : ∀ (j x : Nat) (c : List Int), L[j]? = some x → r.inside[j]? = some c → isIn run x c = true
theorem tk_ok {f : FoV} {k : LkV} {r : RuV} {run : List ItV} {a : Nat} {L : List Nat} (ha : a < run.length) (hi : 1 ≤ r.inside.length) (h : matV f k r run a = some L) : TkOk f k r run a L := by
  unfold matV at h
  split at h
  · cases h
  rename_i h1
  split at h
  · cases h
  rename_i h2
  split at h
  · cases h
  cases h
  have hs : seeI f k run a = true := by simpa using h1
  have hin : inS run (onV f k r run a) (r.inside ++ r.ahead) = true := by simpa using h2
  have eU : onV f k r run a = (unV f k run a).take (r.inside ++ r.ahead).length := on_eq
  unfold inS at hin
  rw [Bool.and_eq_true] at hin
  obtain ⟨hl, hz⟩ := hin
  have hl := of_decide_eq_true hl
  rw [List.length_append] at hl
  obtain ⟨t, ht⟩ := un_head (f := f) (k := k) ha hs
  have eT : (onV f k r run a).take r.inside.length = (unV f k run a).take r.inside.length := by
    rw [eU, List.take_take, List.length_append]
    congr 1
    omega
  have sub : ((onV f k r run a).take r.inside.length).Sublist (unV f k run a) := by rw [eT]; exact List.take_sublist ..
  refine ⟨eT, by rw [List.length_take]; omega, ?_, fun x m => ?_, ?_, fun j x c hj hc => ?_⟩
  · rw [eT, ht]
    obtain ⟨m, hm⟩ : ∃ m, r.inside.length = m + 1 := ⟨r.inside.length - 1, by omega⟩
    rw [hm, List.take_succ_cons]
    exact ⟨_, rfl⟩
  · have := sub.mem m
    unfold unV at this
    have := (List.mem_filter.mp this).1
    simp only [List.mem_map, List.mem_range] at this
    obtain ⟨y, hy, rfl⟩ := this
    omega
  · refine List.Pairwise.sublist sub ?_
    unfold unV
    refine List.Pairwise.filter _ (List.pairwise_map.mpr ?_)
    exact List.pairwise_lt_range.imp (fun h => by omega)
  · have hjl : j < r.inside.length := (List.getElem?_eq_some_iff.mp hc).1
    rw [List.getElem?_take_of_lt hjl] at hj
    have hb := List.all_eq_true.mp hz (isIn run x c) (List.mem_of_getElem? (i := j) (by
      rw [List.getElem?_zipWith, hj, List.getElem?_append_left hjl, hc]))
    exact hb
theorem TkOk.pl {f : FoV} {k : LkV} {r : RuV} {run : List ItV} {a : Nat} {L : List Nat} (h : TkOk f k r run a L) (hi : r.inside.length ≤ 4) : PlOk run L := by
  obtain ⟨t, ht⟩ := h.hd
  have ne : L ≠ [] := by rw [ht]; simp
  have e0 : hdN L = a := by rw [ht]; rfl
  exact ⟨ne, fun j m => (h.mem j m).2, by rw [e0]; exact (h.mem _ (ls_mem ne)).1, by rw [h.len]; omega⟩
theorem TkOk.hdE {f : FoV} {k : LkV} {r : RuV} {run : List ItV} {a : Nat} {L : List Nat} (h : TkOk f k r run a L) : hdN L = a := by
  obtain ⟨t, ht⟩ := h.hd
  rw [ht]
  rfl
theorem ro_of {f : FoV} {k : LkV} {r : RuV} {i : Nat} (h : f.Ok) (hk : k ∈ f.lks) (hr : k.rules[i]? = some r) : RuV.Ok f.glyphs.length (f.lks.map LkV.kind) k.kind r := (h.lo k hk).ro r (List.mem_of_getElem? hr)
theorem TkOk.sw {f : FoV} {k : LkV} {r : RuV} {run : List ItV} {a : Nat} {L : List Nat} {it : ItV} {ks : List Str} (h : TkOk f k r run a L) (ok : RuV.Ok f.glyphs.length ks k.kind r) (hk : k.kind = "single" ∨ k.kind = "reverse") (hit : run[a]? = some it) : SwOk f r it.g := by
  have h3 := ok.i3
  obtain ⟨s0, hs0⟩ : ∃ s0, r.inside[0]? = some s0 := ⟨_, List.getElem?_eq_getElem (by omega)⟩
  obtain ⟨t, ht⟩ := h.hd
  have := h.isin 0 a s0 (by rw [ht]; rfl) hs0
  unfold isIn at this
  rw [hit] at this
  exact ⟨⟨s0, hs0, of_decide_eq_true this, ok.os hk s0 hs0⟩, ok.og⟩
theorem TkOk.rp {f : FoV} {k : LkV} {r : RuV} {run : List ItV} {a : Nat} {L : List Nat} {it : ItV} {ks : List Str} (h : TkOk f k r run a L) (ok : RuV.Ok f.glyphs.length ks k.kind r) (hit : run[a]? = some it) : RpOk f k.kind r it.g :=
  ⟨fun e => h.sw ok (.inl e) hit, ok.og, ok.o⟩
/-- what the function that is handed on tells: the first rule that matches; W: what is known of what it keeps -/
structure RuleAt (K : PySem.W.Frag) (RA : List (Option V) → Sp) (W : List (Option V) → List Addr → Hp → FoV → Prop) : Prop where
  same : ∀ {ws S H H' f}, W ws S H f → Same H H' → W ws S H' f
  ra : ∀ {ws S H f} {l a : Nat} {k : LkV} {run : List ItV} {v3 : V} {p : Addr} {fs : List Int} {Q : VK} {E : XK}, W ws S H f → Al S H → Dq S H v3 (ruD run) → (SqL K H p (fs.map V.int) ∨ SqT K H p (fs.map V.int)) → f.Ok → f.lks[l]? = some k → RunOk f run → a < run.length →
    (∀ H', Same H H' → Q (opI (mtV f k run a fs)) H') → RA ws [.int l, v3, .int a, .ref p] H Q E
abbrev lps : List Str := ["number", "items", "at", "these"]
/-- the functions that may be handed on: level 8 -/
abbrev ZL (P : Program) (w : World) (K : PySem.W.Frag) (mg : Str → Option Value) (base : Heap) (lb : Expr) (fr : List Str) (RA : List (Option V) → Sp) : NdefX.NF → Prop := fun F => LOk P w K mg base 8 F lb lps fr RA
end
section
variable {P : Program} {w : World} {K : PySem.W.Frag} {mg : Str → Option Value} {base : Heap} {lb : Expr} {fr : List Str} {RA : List (Option V) → Sp} {W : List (Option V) → List Addr → Hp → FoV → Prop}
def spCa (c : Cs) (lb : Expr) (W : List (Option V) → List Addr → Hp → FoV → Prop) : NdefX.NF → List (Option V) → Sp := fun F ws vs H Q _ => ∃ (S : List Addr) (f : FoV) (l : Nat) (k : LkV) (it : ItV) (v1 v3 : V) (g : Addr), vs = [v1, .int l, v3, .ref g] ∧ Al S H ∧ Dq S H v1 (foD c f.R) ∧ W ws S H f ∧ Dq S H v3 it.D ∧ f.Ok ∧ f.lks[l]? = some k ∧ (k.kind = "single" ∨ k.kind = "multiple") ∧ it.g < f.glyphs.length ∧ LmH H g F lb ∧
  ∀ b H', Same H H' → H b = none → Dq S H' (.ref b) (ruD (catV f k it)) → Q (.ref b) H'
theorem ok_called_at (T : Txt K mg) (R : RuleAt K RA W) : HasL P w K mg base (ZL P w K mg base lb fr RA) fr 9 "called_at" ps_called_at (spCa (cs mg) lb W) := by
  obtain ⟨_, _, _, _, _, _, _, _, _, _, _, _, _, _, cF⟩ := T.c_Font
  have clF := cF.cl
  have naF := cF.na
  have clL := T.c_Lookup.cl
  have naL := T.c_Lookup.na
  have h_replaced := ok_replaced (P := P) (w := w) (base := base) T
  refine hasL_of T.d_called_at sc_called_at bd_called_at (fun F ws vs H Q E h => ?_) (fun f cdv A outer s H vs Q E F ws hz hC hr h => ?_)
  · obtain ⟨S, f, l, k, it, v1, v3, g, rfl, _⟩ := h
    rfl
  · obtain ⟨S, fo, l, k, it, v1, v3, g, rfl, hS, h1, hW, h3, fok, hk, hkd, hig, hL, q⟩ := h
    have h1' := h1
    obtain ⟨fa, fdx, w1, w2, w3, w4, w5, w6, w7, w8, w9, rfl, fna, fA, j1, j2, j3, j4, j5, j6, j7, j8, j9⟩ := foE h1'
    obtain ⟨lb2, ls, rfl, hlb, hll, hlD⟩ := lstN j4
    obtain ⟨xl, hxl, hxlD⟩ := hlD.getD (i := l) (d := lkD (cs mg) k.R) (by show ((fo.lks.map LkV.R).map _)[l]? = _; rw [List.getElem?_map, List.getElem?_map, hk]; rfl)
    obtain ⟨la, ldx, l1, l2, l3, rfl, _, hlA, m1, m2, m3⟩ := lkE hxlD
    obtain ⟨rb, rs, rfl, hrb, hrl, hrD⟩ := lstN m2
    cases m1
    have hatl : atI ls (l : Int) = some (.ref la) := atI_nat (j := l) hxl
    refine ⟨_, (pss_cons (ps_set (i := 4) sc_called_at.nd rfl (.inl rfl) (pe_callLm (i := 3) hz (fun I => cells_later hC rfl I) (hr.mono (by decide)) rfl (.inl rfl) (pa_cons (pv 1) (pa_cons (pe_lst (pa_cons (pv 2) pa_nil)) (pa_cons pe_int (pa_cons (pe_tup pa_nil) pa_nil))))))
      (pss_cons (ps_if (pt_cmpR op_isN (pv 4) pe_non (nomark _))
        (pss_one (ps_ret (pe_lst (pa_cons (pv 2) pa_nil))))
        pss_nil)
      (pss_one (ps_ret (pe_h h_replaced (hr.mono (by decide)) (pa_cons (pv 0) (pa_cons (peFld (K := K) rfl (pe_ix (ixL (K := K) rfl) (peFld (K := K) rfl (pv 0) rfl) (pv 1) (fun _ _ => rfl)) rfl) (pa_cons (pe_ix (ixL (K := K) rfl) (peFld (K := K) rfl (pe_ix (ixL (K := K) rfl) (peFld (K := K) rfl (pv 0) rfl) (pv 1) (fun _ _ => rfl)) rfl) (pv 4) (fun _ _ => rfl)) (pa_cons (pv 2) pa_nil))))))))), ?_⟩
    walk_at "fl.w"
    refine g_callLm rfl hL.f ?_
    walk_at "fl.w"
    rename_i p1 hp1 p2 hp2
    have sA : Same H (upd (upd H p1 (.lst [v3])) p2 (.tup [])) := (Fl.Same.new hp1).trans (Fl.Same.new hp2)
    have e1 : upd (upd H p1 (.lst [v3])) p2 (.tup []) p1 = some (.lst [v3]) := raw_new hp2 upd_same
    have e2 : upd (upd H p1 (.lst [v3])) p2 (.tup []) p2 = some (.tup []) := upd_same
    generalize upd (upd H p1 (.lst [v3])) p2 (.tup []) = G at sA e1 e2 ⊢
    have alG := hS.same sA
    refine ⟨hL.same sA, R.ra (l := l) (a := 0) (k := k) (run := [it]) (fs := []) (R.same hW sA) alG (.lst (hS.ni hp1) e1 (.cons (h3.same sA) .nil)) (.inr (SqT.of e2)) fok hk ⟨fun x m => by rw [show x = it by simpa using m]; exact hig, by simp⟩ (by simp) (fun H2 sm2 => ?_)⟩
    have s2 := sA.trans sm2
    cases hm : mtV fo k [it] 0 [] with
    | none =>
      have ec : catV fo k it = [it] := by unfold catV; rw [hm]
      rw [ec] at q
      show gName 4 V.non _ H2 _
      walk_at "fl.w"
      refine g_ite (fun _ => ?_) (fun z => absurd rfl z)
      walk_at "fl.w"
      rename_i p3 hp3
      exact q _ _ (s2.trans (Fl.Same.new hp3)) (none_back s2 hp3) (.newL (hS.same s2) hp3 (.cons (h3.same s2) .nil))
    | some i =>
      obtain ⟨r, L, hri, hmat⟩ := mt_some hm
      have rok := ro_of fok (List.mem_of_getElem? hk) hri
      have tk := tk_ok (by simp) rok.i3.1 hmat
      have ec : catV fo k it = repV fo k.kind r it := by unfold catV; rw [hm]; show (match k.rules[i]? with | none => [it] | some r => repV fo k.kind r it) = _; rw [hri]
      rw [ec] at q
      obtain ⟨xr, hxr, hxrD⟩ := hrD.getD (i := i) (d := insD (cs mg).R r.R.F) (by show ((k.rules.map RuV.R).map _)[i]? = _; rw [List.getElem?_map, List.getElem?_map, hri]; rfl)
      have hatr : atI rs (i : Int) = some xr := atI_nat (j := i) hxr
      have fA2 := s2 _ _ fA
      have hlb2 := s2 _ _ hlb
      have hlA2 := s2 _ _ hlA
      have hrb2 := s2 _ _ hrb
      have nint : ¬ (V.int (i : Int) = V.non) := fun z => by cases z
      show gName 4 (V.int (i : Int)) _ H2 _
      walk_at "fl.w"
      refine g_ite (fun z => absurd z nint) (fun _ => ?_)
      walk_at "fl.w"
      exact spF_app S [foD (cs mg) fo.R, .str k.kind, insD (cs mg).R r.R.F, it.D] _ (hS.same s2) (.cons (h1.same s2) (.cons (.str _) (.cons (hxrD.same s2) (.cons (h3.same s2) .nil)))) ⟨fo, k.kind, r, it, rfl, tk.rp rok rfl, rfl⟩ (fun b H3 sm3 hb3 hv => q b H3 (s2.trans sm3) (none_back s2 hb3) hv)
end

section
theorem prv_s (l : List Int) (i : Nat) : prv l (i + 1) = (l[i]?).getD (-1) := rfl
theorem prv_lt {l : List Int} (h : ∀ (i : Nat) g, l[i]? = some g → prv l i < g) : ∀ (d i : Nat) (x y : Int), l[i]? = some x → l[i + 1 + d]? = some y → x < y
  | 0, i, x, y, hx, hy => by
    have := h (i + 1) y hy
    rw [prv_s, hx] at this
    exact this
  | d + 1, i, x, y, hx, hy => by
    obtain ⟨z, hz⟩ : ∃ z, l[i + 1 + d]? = some z := ⟨_, List.getElem?_eq_getElem (by have := (List.getElem?_eq_some_iff.mp hy).1; omega)⟩
    have h1 := prv_lt h d i x z hx hz
    have h2 := h (i + 1 + d + 1) y (by rw [show i + 1 + d + 1 = i + 1 + (d + 1) by omega]; exact hy)
    rw [prv_s, hz] at h2
    exact Int.lt_trans h1 h2
theorem cat_len {f : FoV} {l : Nat} {k : LkV} {it : ItV} (fok : f.Ok) (hk : f.lks[l]? = some k) : (catV f k it).length ≤ 8 := by
  unfold catV
  split
  · simp
  · split
    · simp
    · rename_i r hr
      have := (ro_of fok (List.mem_of_getElem? hk) hr).o
      unfold repV
      split
      · simp
      · rw [List.length_map]
        exact this
theorem spl_len {xs ys : List ItV} {p : Nat} (h : p < xs.length) : (splV xs ys p).length + 1 = xs.length + ys.length := by
  unfold splV
  rw [List.length_append, List.length_append, List.length_take, List.length_drop]
  omega
theorem calV1_or (f : FoV) (L : List Nat) (c : Int × Int) (made : List ItV) : (∃ k it, f.lks[c.2.toNat]? = some k ∧ made[atN L c.1 - hdN L]? = some it ∧ calV1 f L c made = splV made (catV f k it) (atN L c.1 - hdN L)) ∨ calV1 f L c made = made := by
  cases hk : f.lks[c.2.toNat]? with
  | none => exact .inr (by unfold calV1; rw [hk])
  | some k =>
    cases hit : made[atN L c.1 - hdN L]? with
    | none => exact .inr (by unfold calV1; rw [hk, hit])
    | some it => exact .inl ⟨k, it, rfl, rfl, by unfold calV1; rw [hk, hit]⟩
theorem cal_pre (f : FoV) (L : List Nat) (mid : List ItV) (m : Nat) : ∀ cs : List (Int × Int), (∀ c, c ∈ cs → m ≤ atN L c.1 - hdN L) → (cs.foldr (calV1 f L) mid).take m = mid.take m
  | [], _ => rfl
  | c :: cs, h => by
    have ih := cal_pre f L mid m cs fun x mx => h x (List.mem_cons_of_mem _ mx)
    have hc := h c List.mem_cons_self
    rw [List.foldr_cons]
    generalize cs.foldr (calV1 f L) mid = acc at ih ⊢
    rcases calV1_or f L c acc with ⟨k, it, hk, hit, e⟩ | e
    · have hlt := (List.getElem?_eq_some_iff.mp hit).1
      rw [e]
      unfold splV
      rw [List.append_assoc, List.take_append_of_le_length (by rw [List.length_take]; omega), List.take_take, Nat.min_eq_left hc, ih]
    · rw [e]
      exact ih
theorem cal_len (f : FoV) (L : List Nat) (mid : List ItV) (fok : f.Ok) : ∀ cs : List (Int × Int), (cs.foldr (calV1 f L) mid).length ≤ mid.length + 8 * cs.length
  | [] => by simp
  | c :: cs => by
    have ih := cal_len f L mid fok cs
    rw [List.foldr_cons, List.length_cons]
    generalize cs.foldr (calV1 f L) mid = acc at ih ⊢
    rcases calV1_or f L c acc with ⟨k, it, hk, hit, e⟩ | e
    · have hlt := (List.getElem?_eq_some_iff.mp hit).1
      have h1 := spl_len (xs := acc) (ys := catV f k it) hlt
      have h2 := cat_len (it := it) fok hk
      rw [e]
      omega
    · rw [e]
      omega
structure CdOk (f : FoV) (r : RuV) (run : List ItV) (L : List Nat) : Prop where
  pl : PlOk run L
  up : L.Pairwise (· < ·)
  len : L.length = r.inside.length
  cu : ∀ (i : Nat) p, r.calls[i]? = some p → prv (r.calls.map Prod.fst) i < p.1 ∧ p.1 < r.inside.length ∧ 0 ≤ p.2 ∧ ∃ k, f.lks[p.2.toNat]? = some k ∧ (k.kind = "single" ∨ k.kind = "multiple")
theorem prv_ge {l : List Int} (h : ∀ (i : Nat) g, l[i]? = some g → prv l i < g) : ∀ (i : Nat) (g : Int), l[i]? = some g → (i : Int) ≤ g
  | 0, g, e => by
    have : (-1 : Int) < g := h 0 g e
    omega
  | i + 1, g, e => by
    obtain ⟨z, hz⟩ : ∃ z, l[i]? = some z := ⟨_, List.getElem?_eq_getElem (by have := (List.getElem?_eq_some_iff.mp e).1; omega)⟩
    have h1 := prv_ge h i z hz
    have h2 := h (i + 1) g e
    rw [prv_s, hz] at h2
    simp only [Option.getD_some] at h2
    omega
theorem CdOk.fst {f : FoV} {r : RuV} {run : List ItV} {L : List Nat} (h : CdOk f r run L) : ∀ (i : Nat) g, (r.calls.map Prod.fst)[i]? = some g → prv (r.calls.map Prod.fst) i < g := fun i g e => by
  rw [List.getElem?_map] at e
  cases hc : r.calls[i]? with
  | none => rw [hc] at e; cases e
  | some p => rw [hc] at e; cases e; exact (h.cu i p hc).1
theorem CdOk.nc {f : FoV} {r : RuV} {run : List ItV} {L : List Nat} (h : CdOk f r run L) : r.calls.length ≤ 8 := by
  rcases Nat.eq_zero_or_pos r.calls.length with z | z
  · omega
  · obtain ⟨p, hp⟩ : ∃ p, r.calls[r.calls.length - 1]? = some p := ⟨_, List.getElem?_eq_getElem (by omega)⟩
    have h1 := prv_ge h.fst (r.calls.length - 1) p.1 (by rw [List.getElem?_map, hp]; rfl)
    have h2 := (h.cu _ p hp).2.1
    have h3 := h.len
    have h4 := h.pl.len
    omega
theorem pw_lt {L : List Nat} (h : L.Pairwise (· < ·)) {i j x y : Nat} (hx : L[i]? = some x) (hy : L[j]? = some y) (hij : i < j) : x < y := by
  obtain ⟨h1, e1⟩ := List.getElem?_eq_some_iff.mp hx
  obtain ⟨h2, e2⟩ := List.getElem?_eq_some_iff.mp hy
  have := List.pairwise_iff_getElem.mp h i j h1 h2 hij
  rw [e1, e2] at this
  exact this
theorem hd_get {L : List Nat} (h : L ≠ []) : L[0]? = some (hdN L) := by
  have hp := List.length_pos_iff.mpr h
  unfold hdN
  rw [List.getElem?_eq_getElem hp]
  rfl
theorem ls_get {L : List Nat} (h : L ≠ []) : L[L.length - 1]? = some (lsN L) := by
  have hp := List.length_pos_iff.mpr h
  unfold lsN
  rw [List.getElem?_eq_getElem (by omega)]
  rfl
/-- the place of a call, and that of the later ones -/
theorem CdOk.at_ {f : FoV} {r : RuV} {run : List ItV} {L : List Nat} (h : CdOk f r run L) {i : Nat} {c : Int × Int} (hc : r.calls[i]? = some c) : ∃ j x : Nat, c.1 = (j : Int) ∧ L[j]? = some x ∧ atN L c.1 = x ∧ hdN L ≤ x ∧ x ≤ lsN L ∧ x < run.length ∧ ∀ d, d ∈ r.calls.drop (i + 1) → x - hdN L + 1 ≤ atN L d.1 - hdN L := by
  obtain ⟨c1, c2, c3, _⟩ := h.cu i c hc
  have c0 := prv_ge h.fst i c.1 (by rw [List.getElem?_map, hc]; rfl)
  have hl := h.len
  obtain ⟨x, hx⟩ : ∃ x, L[c.1.toNat]? = some x := ⟨_, List.getElem?_eq_getElem (by omega)⟩
  have hxl := (List.getElem?_eq_some_iff.mp hx).1
  have g0 := hd_get h.pl.ne
  have g1 := ls_get h.pl.ne
  have le0 : hdN L ≤ x := by
    rcases Nat.eq_zero_or_pos c.1.toNat with z | z
    · rw [z, g0] at hx
      cases hx
      exact Nat.le_refl _
    · exact Nat.le_of_lt (pw_lt h.up g0 hx z)
  have le1 : x ≤ lsN L := by
    rcases (by omega : c.1.toNat = L.length - 1 ∨ c.1.toNat < L.length - 1) with z | z
    · rw [z, g1] at hx
      cases hx
      exact Nat.le_refl _
    · exact Nat.le_of_lt (pw_lt h.up hx g1 z)
  have ea : atN L c.1 = x := by unfold atN; rw [hx]; rfl
  refine ⟨c.1.toNat, x, by omega, hx, ea, le0, le1, h.pl.lt x (List.mem_of_getElem? hx), fun d md => ?_⟩
  obtain ⟨m, hm⟩ := List.getElem?_of_mem md
  rw [List.getElem?_drop] at hm
  obtain ⟨d1, d2, d3, _⟩ := h.cu _ d hm
  have lt := prv_lt h.fst m i c.1 d.1 (by rw [List.getElem?_map, hc]; rfl) (by rw [List.getElem?_map, hm]; rfl)
  obtain ⟨y, hy⟩ : ∃ y, L[d.1.toNat]? = some y := ⟨_, List.getElem?_eq_getElem (by omega)⟩
  have := pw_lt h.up hx hy (by omega)
  have ed : atN L d.1 = y := by unfold atN; rw [hy]; rfl
  rw [ed]
  omega
theorem it_off {S : List Addr} {H : Hp} {v : V} {it : ItV} {p : Addr} {xs : List V} (h : Dq S H v it.D) (e : H p = some (.lst xs)) : Dq (p :: S) H v it.D := by
  obtain ⟨t, rfl, nt, ht⟩ := itE h
  exact itI (fun m => by
    rcases List.mem_cons.mp m with z | m
    · rw [z, e] at ht; cases ht
    · exact nt m) ht
theorem its_off {S : List Addr} {H : Hp} {p : Addr} {xs : List V} (e : H p = some (.lst xs)) : ∀ {run : List ItV} {vs : List V}, DqA S H vs (run.map ItV.D) → DqA (p :: S) H vs (run.map ItV.D)
  | [], _, h => by cases h; exact .nil
  | it :: run, _, h => by
    obtain ⟨v, ws, rfl, hv, h⟩ := h.consE
    exact .cons (it_off hv e) (its_off e h)
end
section
variable {P : Program} {w : World} {K : PySem.W.Frag} {mg : Str → Option Value} {base : Heap} {lb : Expr} {fr : List Str} {RA : List (Option V) → Sp} {W : List (Option V) → List Addr → Hp → FoV → Prop}
local macro_rules | `(tactic| walk_at "fl.t") => `(tactic| (with_reducible refine g_slc ?_))
local macro_rules | `(tactic| walk_at "fl.t") => `(tactic| (with_reducible refine g_callL2 ?_))
local macro_rules | `(tactic| walk_at "fl.t") => `(tactic| (with_reducible refine g_rev ?_))
local macro_rules | `(tactic| walk_at "fl.w") => `(tactic| repeat walk_at "fl.t")
def spCd (c : Cs) (lb : Expr) (W : List (Option V) → List Addr → Hp → FoV → Prop) : NdefX.NF → List (Option V) → Sp := fun F ws vs H Q _ => ∃ (S : List Addr) (f : FoV) (r : RuV) (run : List ItV) (L : List Nat) (v1 v2 v3 v4 : V) (g : Addr), vs = [v1, v2, v3, v4, .ref g] ∧ Al S H ∧ Dq S H v1 (foD c f.R) ∧ W ws S H f ∧ Dq S H v2 (insD c.R r.R.F) ∧ Dq S H v3 (ruD run) ∧ Dq S H v4 (natsD L) ∧ f.Ok ∧ RunOk f run ∧ CdOk f r run L ∧ LmH H g F lb ∧
  ∀ b H', Same H H' → H b = none → Dq S H' (.ref b) (ruD (calV f r run L)) → Q (.ref b) H'
theorem ok_called (T : Txt K mg) (R : RuleAt K RA W) : HasL P w K mg base (ZL P w K mg base lb fr RA) fr 10 "called" ps_called (spCd (cs mg) lb W) := by
  obtain ⟨_, _, _, _, _, _, _, _, cR⟩ := T.c_Rule
  have clR := cR.cl
  have naR := cR.na
  have hL_called_at := ok_called_at (P := P) (w := w) (base := base) (lb := lb) (fr := fr) T R
  refine hasL_of T.d_called sc_called bd_called (fun F ws vs H Q E h => ?_) (fun f cdv A outer s H vs Q E F ws hz hC hr h => ?_)
  · obtain ⟨S, f, r, run, L, v1, v2, v3, v4, g, rfl, _⟩ := h
    rfl
  · obtain ⟨S, fo, r, run, L, v1, v2, v3, v4, g, rfl, hS, h1, hW, h2, h3, h4, fok, hrun, ok, hL, q⟩ := h
    have h2' := h2
    have h3' := h3
    have h4' := h4
    obtain ⟨ra, rdx, u1, u2, u3, u4, u5, u6, rfl, rna, rA, k1, k2, k3, k4, k5, k6⟩ := ruE h2'
    obtain ⟨rr, xs, rfl, nr, hr', hX⟩ := h3'.lstE
    obtain ⟨la, rfl, nla, hla⟩ := natsE h4'
    have hxl : xs.length = run.length := by rw [hX.len, List.length_map]
    have pl := ok.pl
    have hL0 := zI_hd pl.ne
    have hL1 := zI_last pl.ne
    have hle := pl.le
    have hlt := pl.lt _ (ls_mem pl.ne)
    have hr1 := hrun.2
    have ek5 : ltD r.R.calls = .list (r.calls.map fun p : Int × Int => PyData.tuple [.int p.1, .int p.2]) := by
      unfold ltD RuV.R
      simp only [List.map_map]
      rfl
    rw [ek5] at k5
    obtain ⟨cb, cxs, rfl, ncb, hcb, hCX⟩ := k5.lstE
    have hcl : cxs.length = r.calls.length := by rw [hCX.len, List.length_map]
    have hnc := ok.nc
    refine ⟨_, (pss_cons (ps_set (i := 5) sc_called.nd rfl (.inl rfl) (pe_slice (slL' (K := K) rfl) (pv 2) (po_some (pe_ix (ixL (K := K) rfl) (pv 3) pe_int (fun _ _ => rfl))) (po_some (pe_op op_add (pe_ix (ixL (K := K) rfl) (pv 3) (pe_un un_neg pe_int) (fun _ _ => rfl)) pe_int))))
      (pss_cons (ps_for PassesOwn.never rfl (pi_reversed (by rfl) T.z_reversed (pa_cons (peFld (K := K) rfl (pv 1) rfl) pa_nil)) (pgT (n := 2) (K := K) rfl (by rfl) (pgs_cons (pg_name (i := 6) sc_called.nd rfl (.inl rfl)) (pgs_cons (pg_name (i := 7) sc_called.nd rfl (.inl rfl)) pgs_nil)))
        (pss_cons (ps_set (i := 8) sc_called.nd rfl (.inl rfl) (pe_op op_sub (pe_ix (ixL (K := K) rfl) (pv 3) (pv 6) (fun _ _ => rfl)) (pe_ix (ixL (K := K) rfl) (pv 3) pe_int (fun _ _ => rfl))))
      (pss_one (ps_asg (pe_hL hL_called_at (mk := fun _ => F) (ws := fun _ => ws) (fun _ => hz) (fun _ I => cells_later hC rfl I) (hr.mono (by decide)) (pa_cons (pv 0) (pa_cons (pv 7) (pa_cons (pe_ix (ixL (K := K) rfl) (pv 5) (pv 8) (fun _ _ => rfl)) (pa_cons (pv 4) pa_nil))))) (pg_slc (pv 5) (po_some (pv 8)) (po_some (pe_op op_add (pv 8) pe_int)))))))
      (pss_one (ps_ret (pv 5))))), ?_⟩
    walk_at "fl.w"
    refine g_slAB (hdN L) (lsN L + 1) (SqL.of hr') rfl (by omega) (by omega) (fun p hp => ?_)
    have smp : Same H (upd H p (.lst ((xs.drop (hdN L)).take (lsN L + 1 - hdN L)))) := Fl.Same.new hp
    have np : p ∉ S := hS.ni hp
    have e0 : upd H p (.lst ((xs.drop (hdN L)).take (lsN L + 1 - hdN L))) p = some (.lst ((xs.drop (hdN L)).take (lsN L + 1 - hdN L))) := upd_same
    have d0 : DqA S (upd H p (.lst ((xs.drop (hdN L)).take (lsN L + 1 - hdN L)))) ((xs.drop (hdN L)).take (lsN L + 1 - hdN L)) ((midV run L).map ItV.D) := by
      unfold midV
      rw [List.map_take, List.map_drop]
      exact ((hX.drop _).take _).same smp
    have d0' := its_off e0 d0
    generalize upd H p (.lst ((xs.drop (hdN L)).take (lsN L + 1 - hdN L))) = G at smp e0 d0 d0' ⊢
    clear d0
    have rAG := smp _ _ rA
    have hcbG := smp _ _ hcb
    walk_at "fl.w"
    refine ⟨cb, cxs, rfl, SqL.of hcbG, ?_⟩
    refine forK_v (fun i σ' H' => (∃ u6 u7 u8, σ' = [some v1, some (.ref ra), some (.ref rr), some (.ref la), some (.ref g), some (.ref p), u6, u7, u8]) ∧ Same H H' ∧ ∃ ys, H' p = some (.lst ys) ∧ DqA (p :: S) H' ys (((r.calls.drop i).foldr (calV1 fo L) (midV run L)).map ItV.D)) ⟨⟨_, _, _, rfl⟩, smp, _, e0, by rw [hcl, List.drop_length]; exact d0'⟩ (fun i σ' H' _ ⟨_, sm, _⟩ => SqL.of (sm _ _ hcb)) ?_ ?_
    · intro i x σ' H' hx ⟨⟨u6, u7, u8, e⟩, sm, ys, hy, dy⟩
      subst e
      obtain ⟨c, hc⟩ : ∃ c, r.calls[i]? = some c := ⟨_, List.getElem?_eq_getElem (by have := (List.getElem?_eq_some_iff.mp hx).1; omega)⟩
      obtain ⟨j, y, ej, hj, ea, y0, y1, y2, later⟩ := ok.at_ hc
      obtain ⟨_, _, c3, k, hk, hkd⟩ := ok.cu i c hc
      obtain ⟨c1, c2⟩ := c
      obtain ⟨d, hd, hcd⟩ := hCX.get hx
      rw [List.getElem?_map, hc] at hd
      cases hd
      obtain ⟨t, zr, rfl, _, ht, hZ⟩ := hcd.tupE
      obtain ⟨z1, zr, rfl, hz1, hZ⟩ := hZ.consE
      obtain ⟨z2, zr, rfl, hz2, hZ⟩ := hZ.consE
      cases hZ.nilE
      cases hz1.intE
      cases hz2.intE
      have ht2 := sm _ _ ht
      have hla2 := sm _ _ hla
      have e2 : c2 = ((c2.toNat : Nat) : Int) := by
        have : 0 ≤ c2 := c3
        omega
      have hLj : atI ((zI L).map V.int) c1 = some (.int (y : Int)) := by rw [show c1 = (j : Int) from ej]; exact zI_get hj
      obtain ⟨it, hit⟩ : ∃ it, run[y]? = some it := ⟨_, List.getElem?_eq_getElem y2⟩
      have hmid : (midV run L)[y - hdN L]? = some it := by
        unfold midV
        rw [List.getElem?_take_of_lt (by omega), List.getElem?_drop, show hdN L + (y - hdN L) = y by omega]
        exact hit
      generalize hacc : (r.calls.drop (i + 1)).foldr (calV1 fo L) (midV run L) = acc at dy
      have hpre : acc.take (y - hdN L + 1) = (midV run L).take (y - hdN L + 1) := by
        rw [← hacc]
        exact cal_pre fo L (midV run L) _ _ later
      have hait : acc[y - hdN L]? = some it := by
        have h5 : (acc.take (y - hdN L + 1))[y - hdN L]? = some it := by
          rw [hpre, List.getElem?_take_of_lt (by omega)]
          exact hmid
        rw [List.getElem?_take_of_lt (by omega)] at h5
        exact h5
      have hal : acc.length ≤ run.length + 64 := by
        have := cal_len fo L (midV run L) fok (r.calls.drop (i + 1))
        rw [hacc, List.length_drop] at this
        have h6 : (midV run L).length ≤ run.length := by unfold midV; rw [List.length_take, List.length_drop]; omega
        omega
      have hyl : ys.length = acc.length := by rw [dy.len, List.length_map]
      have hlt2 := (List.getElem?_eq_some_iff.mp hait).1
      obtain ⟨tv, htv, htD⟩ := dy.getD (i := y - hdN L) (d := it.D) (by rw [List.getElem?_map, hait]; rfl)
      have haty : atI ys ((y : Int) - (hdN L : Int)) = some tv := by
        rw [show (y : Int) - (hdN L : Int) = ((y - hdN L : Nat) : Int) by omega]
        exact atI_nat htv
      have alS := hS.same sm
      have enew : (r.calls.drop i).foldr (calV1 fo L) (midV run L) = splV acc (catV fo k it) (y - hdN L) := by
        rw [List.drop_eq_getElem_cons (by have := (List.getElem?_eq_some_iff.mp hc).1; omega), List.foldr_cons, hacc]
        rw [(List.getElem?_eq_some_iff.mp hc).2]
        unfold calV1
        rw [show atN L (c1, c2).1 = y from ea, hait]
        show (match fo.lks[c2.toNat]?, some it with | some k, some it => _ | _, _ => _) = _
        rw [hk]
      walk_at "fl.w"
      refine ⟨0, S, fo, c2.toNat, k, it, v1, tv, g, by rw [← e2], alS, h1.same sm, R.same hW sm, htD.tail, fok, hk, hkd, hrun.1 it (List.mem_of_getElem? hit), hL.same sm, fun b H2 sm2 hb hv => ?_⟩
      obtain ⟨_, zs, ez, nb, hzs, hZ2⟩ := hv.lstE
      cases ez
      have hy2 := sm2 _ _ hy
      have hzl : zs.length ≤ 8 := by
        have := cat_len (it := it) fok hk
        rw [hZ2.len, List.length_map]
        exact this
      have npb : p ≠ b := fun z => by rw [z, hb] at hy; cases hy
      walk_at "fl.w"
      refine slc_end (y - hdN L) (y - hdN L + 1) hy2 hzs npb (by omega) (by omega) (by omega) (by omega) (by omega) ?_
      refine ⟨⟨_, _, _, rfl⟩, fun a o n => ?_, _, upd_same, ?_⟩
      · have n2 := sm2 _ _ (sm _ _ n)
        rw [upd_ne (fun z => by rw [z, hp] at n; cases n)]
        exact n2
      · rw [enew]
        unfold splV
        rw [List.map_append, List.map_append, List.map_take, List.map_drop]
        have dy2 : DqA (p :: S) H2 ys (acc.map ItV.D) := dy.same sm2
        exact (((dy2.take _).app (its_off hy2 hZ2)).app (dy2.drop _)).fr (Fr.upd (by simp))
    · intro σ' H' ⟨⟨u6, u7, u8, e⟩, sm, ys, hy, dy⟩
      subst e
      walk_at "fl.w"
      exact q p H' sm hp (.lst np hy dy.tail)
end

section
theorem spl_mid {run : List ItV} {L : List Nat} (pl : PlOk run L) : (midV run L).length = lsN L + 1 - hdN L := by
  have := pl.lt _ (ls_mem pl.ne)
  unfold midV
  rw [List.length_take, List.length_drop]
  omega
theorem cat_len3 {f : FoV} {l : Nat} {k : LkV} {it : ItV} (hk : f.lks[l]? = some k) (ho : ∀ k, k ∈ f.lks → Out3 k) (kd : k.kind = "single" ∨ k.kind = "multiple") : (catV f k it).length ≤ 3 := by
  unfold catV
  split
  · simp
  · split
    · simp
    · rename_i r hr
      unfold repV
      split
      · simp
      · rename_i hs
        rw [List.length_map]
        exact ho k (List.mem_of_getElem? hk) (kd.resolve_left hs) r (List.mem_of_getElem? hr)
theorem cal_len3 (f : FoV) (L : List Nat) (mid : List ItV) (ho : ∀ k, k ∈ f.lks → Out3 k) : ∀ cs : List (Int × Int), (∀ c, c ∈ cs → ∃ k, f.lks[c.2.toNat]? = some k ∧ (k.kind = "single" ∨ k.kind = "multiple")) → (cs.foldr (calV1 f L) mid).length ≤ mid.length + 2 * cs.length
  | [], _ => by simp
  | c :: cs, h => by
    have ih := cal_len3 f L mid ho cs fun x m => h x (List.mem_cons_of_mem _ m)
    rw [List.foldr_cons, List.length_cons]
    generalize cs.foldr (calV1 f L) mid = acc at ih ⊢
    rcases calV1_or f L c acc with ⟨k, it, hk, hit, e⟩ | e
    · have hlt := (List.getElem?_eq_some_iff.mp hit).1
      have h1 := spl_len (xs := acc) (ys := catV f k it) hlt
      obtain ⟨k', hk', kd⟩ := h c List.mem_cons_self
      rw [hk] at hk'
      cases hk'
      have h2 := cat_len3 (it := it) hk ho kd
      rw [e]
      omega
    · rw [e]
      omega
theorem CdOk.ncL {f : FoV} {r : RuV} {run : List ItV} {L : List Nat} (h : CdOk f r run L) : r.calls.length ≤ L.length := by
  rcases Nat.eq_zero_or_pos r.calls.length with z | z
  · omega
  · obtain ⟨p, hp⟩ : ∃ p, r.calls[r.calls.length - 1]? = some p := ⟨_, List.getElem?_eq_getElem (by omega)⟩
    have h1 := prv_ge h.fst (r.calls.length - 1) p.1 (by rw [List.getElem?_map, hp]; rfl)
    have h2 := (h.cu _ p hp).2.1
    have h3 := h.len
    omega
/-- rising numbers take their room -/
theorem up_len {L : List Nat} (h : L.Pairwise (· < ·)) (ne : L ≠ []) : hdN L + L.length ≤ lsN L + 1 := by
  have : ∀ j x, L[j]? = some x → hdN L + j ≤ x := by
    intro j
    induction j with
    | zero => intro x hx; rw [hd_get ne] at hx; cases hx; omega
    | succ j ih =>
      intro x hx
      obtain ⟨y, hy⟩ : ∃ y, L[j]? = some y := ⟨_, List.getElem?_eq_getElem (by have := (List.getElem?_eq_some_iff.mp hx).1; omega)⟩
      have h1 := ih y hy
      have h2 := pw_lt h hy hx (by omega)
      omega
  have := this _ _ (ls_get ne)
  have := List.length_pos_iff.mpr ne
  omega
theorem pass_len {run : List ItV} {L : List Nat} (ne : L ≠ []) : (passV run L).length + 1 ≤ lsN L - hdN L + 1 := by
  unfold passV
  rcases Nat.eq_zero_or_pos (lsN L - hdN L) with z | z
  · rw [z]
    simp
  · obtain ⟨m, hm⟩ : ∃ m, lsN L - hdN L = m + 1 := ⟨lsN L - hdN L - 1, by omega⟩
    rw [hm, List.range_succ_eq_map, List.filterMap_cons, if_pos (show hdN L + 0 ∈ L from hd_mem ne)]
    show (List.filterMap _ _).length + 1 ≤ _
    have := List.length_filterMap_le (fun i => if (hdN L + i) ∈ L then none else run[hdN L + i]?) ((List.range m).map Nat.succ)
    rw [List.length_map, List.length_range] at this
    omega
structure BeOk (f : FoV) (k : LkV) (r : RuV) (run : List ItV) (a : Nat) (L : List Nat) : Prop where
  tk : TkOk f k r run a L
  ok : RuV.Ok f.glyphs.length (f.lks.map LkV.kind) k.kind r
theorem BeOk.pl {f : FoV} {k : LkV} {r : RuV} {run : List ItV} {a : Nat} {L : List Nat} (h : BeOk f k r run a L) : PlOk run L := h.tk.pl h.ok.i3.2
theorem BeOk.cd {f : FoV} {k : LkV} {r : RuV} {run : List ItV} {a : Nat} {L : List Nat} (h : BeOk f k r run a L) : CdOk f r run L :=
  ⟨h.pl, h.tk.up, h.tk.len, fun i p e => ⟨(h.ok.cu i p e).1, (h.ok.cu i p e).2.1, (h.ok.cu i p e).2.2.1, by
    obtain ⟨kd, hkd, d⟩ := (h.ok.cu i p e).2.2.2
    rw [List.getElem?_map] at hkd
    cases hq : f.lks[p.2.toNat]? with
    | none => rw [hq] at hkd; cases hkd
    | some k' => rw [hq] at hkd; cases hkd; exact ⟨k', rfl, d⟩⟩⟩
/-- three for one at most -/
theorem bec_len {f : FoV} {k : LkV} {r : RuV} {run : List ItV} {a : Nat} {L : List Nat} (h : BeOk f k r run a L) (hk : k ∈ f.lks) (hr : r ∈ k.rules) (ho : ∀ k, k ∈ f.lks → Out3 k) (hkd : k.kind ∈ kindsR) (nr : k.kind ≠ "reverse") : (becV f k r run L).length ≤ 3 * (lsN L + 1 - hdN L) := by
  have pl := h.pl
  have hle := pl.le
  unfold becV
  split
  · have := pass_len (run := run) pl.ne
    unfold joiV
    rw [List.length_cons, List.length_map]
    omega
  · split
    · have h1 := cal_len3 f L (midV run L) ho r.calls (fun c m => by
        obtain ⟨i, hi⟩ := List.getElem?_of_mem m
        exact (h.cd.cu i c hi).2.2.2)
      have h2 := h.cd.ncL
      have h3 := up_len h.tk.up pl.ne
      rw [spl_mid pl] at h1
      unfold calV
      omega
    · rename_i n1 n2
      split
      · simp
      · unfold repV
        split
        · show 1 ≤ _
          omega
        · rename_i n3
          rw [List.length_map]
          have hm : k.kind = "multiple" := by
            simp only [kindsR, List.mem_cons, List.not_mem_nil, or_false] at hkd
            rcases hkd with z | z | z | z | z
            · exact absurd z n3
            · exact z
            · exact absurd z n1
            · exact absurd z n2
            · exact absurd z nr
          have := ho k hk hm r hr
          omega
end
section
variable {P : Program} {w : World} {K : PySem.W.Frag} {mg : Str → Option Value} {base : Heap} {lb : Expr} {fr : List Str} {RA : List (Option V) → Sp} {W : List (Option V) → List Addr → Hp → FoV → Prop}
local macro_rules | `(tactic| walk_at "fl.t") => `(tactic| (with_reducible refine g_slc ?_))
local macro_rules | `(tactic| walk_at "fl.t") => `(tactic| (with_reducible refine g_callL2 ?_))
local macro_rules | `(tactic| walk_at "fl.t") => `(tactic| (with_reducible refine g_rev ?_))
local macro_rules | `(tactic| walk_at "fl.w") => `(tactic| repeat walk_at "fl.t")
def spWb (c : Cs) (lb : Expr) (W : List (Option V) → List Addr → Hp → FoV → Prop) : NdefX.NF → List (Option V) → Sp := fun F ws vs H Q _ => ∃ (S : List Addr) (f : FoV) (l a : Nat) (k : LkV) (r : RuV) (run : List ItV) (L : List Nat) (v1 v2 v3 v4 : V) (g : Addr), vs = [v1, .int l, v2, v3, v4, .ref g] ∧ Al S H ∧ Dq S H v1 (foD c f.R) ∧ W ws S H f ∧ Dq S H v2 (insD c.R r.R.F) ∧ Dq S H v3 (ruD run) ∧ Dq S H v4 (natsD L) ∧ f.Ok ∧ f.lks[l]? = some k ∧ k.kind ≠ "reverse" ∧ RunOk f run ∧ a < run.length ∧ BeOk f k r run a L ∧ LmH H g F lb ∧
  ∀ b H', Same H H' → H b = none → Dq S H' (.ref b) (ruD (becV f k r run L)) → Q (.ref b) H'
theorem ok_what_becomes (T : Txt K mg) (R : RuleAt K RA W) : HasL P w K mg base (ZL P w K mg base lb fr RA) fr 11 "what_becomes" ps_what_becomes (spWb (cs mg) lb W) := by
  obtain ⟨_, _, _, _, _, _, _, _, _, _, _, _, _, _, cF⟩ := T.c_Font
  have clF := cF.cl
  have naF := cF.na
  have clL := T.c_Lookup.cl
  have naL := T.c_Lookup.na
  have h_joined := ok_joined (P := P) (w := w) (base := base) T
  have h_replaced := ok_replaced (P := P) (w := w) (base := base) T
  have hL_called := ok_called (P := P) (w := w) (base := base) (lb := lb) (fr := fr) T R
  refine hasL_of T.d_what_becomes sc_what_becomes bd_what_becomes (fun F ws vs H Q E h => ?_) (fun f cdv A outer s H vs Q E F ws hz hC hr h => ?_)
  · obtain ⟨S, f, l, a, k, r, run, L, v1, v2, v3, v4, g, rfl, _⟩ := h
    rfl
  · obtain ⟨S, fo, l, a, k, r, run, L, v1, v2, v3, v4, g, rfl, hS, h1, hW, h2, h3, h4, fok, hk, nr, hrun, ha, be, hL, q⟩ := h
    have h1' := h1
    have h3' := h3
    have h4' := h4
    obtain ⟨fa, fdx, w1, w2, w3, w4, w5, w6, w7, w8, w9, rfl, fna, fA, j1, j2, j3, j4, j5, j6, j7, j8, j9⟩ := foE h1'
    obtain ⟨lb2, ls, rfl, hlb, hll, hlD⟩ := lstN j4
    obtain ⟨xl, hxl, hxlD⟩ := hlD.getD (i := l) (d := lkD (cs mg) k.R) (by show ((fo.lks.map LkV.R).map _)[l]? = _; rw [List.getElem?_map, List.getElem?_map, hk]; rfl)
    obtain ⟨la, ldx, l1, l2, l3, rfl, _, hlA, m1, m2, m3⟩ := lkE hxlD
    cases m1
    have hatl : atI ls (l : Int) = some (.ref la) := atI_nat (j := l) hxl
    obtain ⟨rr, xs, rfl, nrr, hr', hX⟩ := h3'.lstE
    obtain ⟨ma, rfl, nma, hma⟩ := natsE h4'
    have pl := be.pl
    have e0 := be.tk.hdE
    have hL0 := zI_hd pl.ne
    obtain ⟨it, t, hit, hat, nt, ht⟩ := run_at hX (show hdN L < run.length by rw [e0]; exact ha)
    have hkd := (fok.lo k (List.mem_of_getElem? hk)).k
    refine ⟨_, (pss_cons (ps_set (i := 6) sc_what_becomes.nd rfl (.inl rfl) (peFld (K := K) rfl (pe_ix (ixL (K := K) rfl) (peFld (K := K) rfl (pv 0) rfl) (pv 1) (fun _ _ => rfl)) rfl))
      (pss_cons (ps_if (pt_cmpR op_eq (pv 6) pe_str (nomark _))
        (pss_one (ps_ret (pe_h h_joined (hr.mono (by decide)) (pa_cons (pv 0) (pa_cons (pv 2) (pa_cons (pv 3) (pa_cons (pv 4) pa_nil)))))))
        pss_nil)
      (pss_cons (ps_if (pt_cmpR op_eq (pv 6) pe_str (nomark _))
        (pss_one (ps_ret (pe_hL hL_called (mk := fun _ => F) (ws := fun _ => ws) (fun _ => hz) (fun _ I => cells_later hC rfl I) (hr.mono (by decide)) (pa_cons (pv 0) (pa_cons (pv 2) (pa_cons (pv 3) (pa_cons (pv 4) (pa_cons (pv 5) pa_nil))))))))
        pss_nil)
      (pss_one (ps_ret (pe_h h_replaced (hr.mono (by decide)) (pa_cons (pv 0) (pa_cons (pv 6) (pa_cons (pv 2) (pa_cons (pe_ix (ixL (K := K) rfl) (pv 3) (pe_ix (ixL (K := K) rfl) (pv 4) pe_int (fun _ _ => rfl)) (fun _ _ => rfl)) pa_nil)))))))))), ?_⟩
    walk_at "fl.w"
    by_cases c1 : k.kind = "ligature"
    · have eb : becV fo k r run L = joiV fo r run L := by unfold becV; rw [if_pos c1]
      rw [eb] at q
      first | refine g_eqS (b := true) (decide_eq_true c1) ?_ | refine g_yesB c1 ?_
      walk_at "fl.w"
      exact spF_app S [foD (cs mg) fo.R, insD (cs mg).R r.R.F, ruD run, natsD L] _ hS (.cons h1 (.cons h2 (.cons h3 (.cons h4 .nil)))) ⟨fo, r, run, L, rfl, be.ok.ol c1, be.ok.og, hrun.2, pl, rfl⟩ (fun b H3 sm3 hb3 hv => q b H3 sm3 hb3 hv)
    first | refine g_eqS (b := false) (decide_eq_false c1) ?_ | refine g_noB c1 ?_
    walk_at "fl.w"
    by_cases c2 : k.kind = "chain"
    · have eb : becV fo k r run L = calV fo r run L := by unfold becV; rw [if_neg c1, if_pos c2]
      rw [eb] at q
      first | refine g_eqS (b := true) (decide_eq_true c2) ?_ | refine g_yesB c2 ?_
      walk_at "fl.w"
      exact ⟨0, S, fo, r, run, L, _, v2, _, _, g, rfl, hS, h1, hW, h2, h3, h4, fok, hrun, be.cd, hL, q⟩
    first | refine g_eqS (b := false) (decide_eq_false c2) ?_ | refine g_noB c2 ?_
    walk_at "fl.w"
    have eb : becV fo k r run L = repV fo k.kind r it := by unfold becV; rw [if_neg c1, if_neg c2, hit]
    rw [eb] at q
    exact spF_app S [foD (cs mg) fo.R, .str k.kind, insD (cs mg).R r.R.F, it.D] _ hS (.cons h1 (.cons (.str _) (.cons h2 (.cons (itI nt ht) .nil)))) ⟨fo, k.kind, r, it, rfl, be.tk.rp be.ok (by rw [← e0]; exact hit), rfl⟩ (fun b H3 sm3 hb3 hv => q b H3 sm3 hb3 hv)
def spWo (K : PySem.W.Frag) (c : Cs) (lb : Expr) (W : List (Option V) → List Addr → Hp → FoV → Prop) : NdefX.NF → List (Option V) → Sp := fun F ws vs H Q _ => ∃ (S : List Addr) (f : FoV) (l : Nat) (k : LkV) (run : List ItV) (fs : List Int) (v1 v3 : V) (p g : Addr), vs = [v1, .int l, v3, .ref p, .ref g] ∧ Al S H ∧ Dq S H v1 (foD c f.R) ∧ W ws S H f ∧ Dq S H v3 (ruD run) ∧ (SqL K H p (fs.map V.int) ∨ SqT K H p (fs.map V.int)) ∧ f.Ok ∧ (∀ k, k ∈ f.lks → Out3 k) ∧ f.lks[l]? = some k ∧ RunOk f run ∧ 3 * run.length < 1000 ∧ LmH H g F lb ∧
  (k.kind ≠ "reverse" → ∀ b H', Same H H' → H b = none → Dq S H' (.ref b) (ruD (wonV f k fs run.length run 0)) → Q (.ref b) H') ∧ (k.kind = "reverse" → ∀ b H', Same H H' → H b = none → Dq S H' (.ref b) (ruD (wbkV f k fs run.length run)) → Q (.ref b) H')
/-- glyphs of what a rule makes are the font's -/
theorem new_g {f : FoV} {g : Nat} {b c : Int} : (newV f g b c).g = g := rfl
theorem rep_g {f : FoV} {kind : Str} {r : RuV} {it : ItV} (h : RpOk f kind r it.g) : ∀ x, x ∈ repV f kind r it → x.g < f.glyphs.length := fun x m => by
  unfold repV at m
  split at m
  · rename_i e
    rw [show x = swpV f r it by simpa using m]
    obtain ⟨_, _, _, _, _, _, z⟩ := (h.s e).get
    exact z
  · obtain ⟨g, mg', rfl⟩ := List.mem_map.mp m
    have := h.o g mg'
    show g.toNat < _
    omega
theorem cat_g {f : FoV} {l : Nat} {k : LkV} {it : ItV} (fok : f.Ok) (hk : f.lks[l]? = some k) (hg : it.g < f.glyphs.length) : ∀ x, x ∈ catV f k it → x.g < f.glyphs.length := fun x m => by
  unfold catV at m
  cases hm : mtV f k [it] 0 [] with
  | none => rw [hm] at m; rw [show x = it by simpa using m]; exact hg
  | some i =>
    rw [hm] at m
    obtain ⟨r, L, hri, hmat⟩ := mt_some hm
    have m : x ∈ (match k.rules[i]? with | none => [it] | some r => repV f k.kind r it) := m
    rw [hri] at m
    have rok := ro_of fok (List.mem_of_getElem? hk) hri
    exact rep_g ((tk_ok (by simp) rok.i3.1 hmat).rp rok rfl) x m
theorem cal_g {f : FoV} {L : List Nat} {mid : List ItV} (fok : f.Ok) (hm : ∀ x, x ∈ mid → x.g < f.glyphs.length) : ∀ cs : List (Int × Int), ∀ x, x ∈ cs.foldr (calV1 f L) mid → x.g < f.glyphs.length
  | [], x, m => hm x m
  | c :: cs, x, m => by
    have ih := cal_g (L := L) fok hm cs
    rw [List.foldr_cons] at m
    generalize cs.foldr (calV1 f L) mid = acc at ih m
    rcases calV1_or f L c acc with ⟨k, it, hk, hit, e⟩ | e
    · rw [e] at m
      unfold splV at m
      rcases List.mem_append.mp m with m | m
      · rcases List.mem_append.mp m with m | m
        · exact ih x (List.mem_of_mem_take m)
        · exact cat_g fok hk (ih it (List.mem_of_getElem? hit)) x m
      · exact ih x (List.mem_of_mem_drop m)
    · rw [e] at m
      exact ih x m
theorem bec_g {f : FoV} {k : LkV} {r : RuV} {run : List ItV} {a : Nat} {L : List Nat} (fok : f.Ok) (h : BeOk f k r run a L) (ha : a < run.length) (hg : ∀ x, x ∈ run → x.g < f.glyphs.length) : ∀ x, x ∈ becV f k r run L → x.g < f.glyphs.length := fun x m => by
  unfold becV at m
  split at m
  · rename_i c1
    unfold joiV at m
    rcases List.mem_cons.mp m with rfl | m
    · obtain ⟨g0, hg0⟩ : ∃ g0, r.out[0]? = some g0 := ⟨_, List.getElem?_eq_getElem (by have := h.ok.ol c1; omega)⟩
      have := h.ok.og g0 (List.mem_of_getElem? hg0)
      show ((r.out[0]?).getD 0).toNat < _
      rw [hg0]
      show g0.toNat < _
      omega
    · obtain ⟨y, my, rfl⟩ := List.mem_map.mp m
      unfold passV at my
      obtain ⟨i, _, e⟩ := List.mem_filterMap.mp my
      split at e
      · cases e
      · exact hg y (List.mem_of_getElem? e)
  · split at m
    · exact cal_g fok (fun y my => hg y (List.mem_of_mem_drop (List.mem_of_mem_take my))) r.calls x m
    · split at m
      · cases m
      · rename_i it hit
        rw [h.tk.hdE] at hit
        exact rep_g (h.tk.rp h.ok hit) x m
end

section
variable {P : Program} {w : World} {K : PySem.W.Frag} {mg : Str → Option Value} {base : Heap} {lb : Expr} {fr : List Str} {RA : List (Option V) → Sp} {W : List (Option V) → List Addr → Hp → FoV → Prop}
theorem g_rng3 {ta tb tc : TE} {σ : L2.St} {H : Hp} {R : It → Hp → Prop} (h : ta σ H fun x H1 => tb σ H1 fun y H2 => tc σ H2 fun z H3 => ∃ (i j c : Int) (n : Nat), [x, y, z] = [V.int i, V.int j, V.int c] ∧ RgC i j c n ∧ R (Itc i c n) H3) : iRng3 (tCons ta (tCons tb (tCons tc tNil))) σ H R := h
theorem forK_c {lo c : Int} {n : Nat} {g : TG} {tb : TS} {D : Ends} {σ : L2.St} {H : Hp} (Pv : Nat → L2.St → Hp → Prop) (h0 : Pv 0 σ H) (hs : ∀ i σ H, i < n → Pv i σ H → g (.int (lo + (i : Nat) * c)) σ H fun σ2 H2 => tb { D with nx := Pv (i + 1), ct := Pv (i + 1), bk := D.nx } σ2 H2) (hd : ∀ σ H, Pv n σ H → D.nx σ H) : forK (Itc lo c n) g tb D σ H := for_rangeC Pv h0 hs hd
local macro_rules | `(tactic| walk_at "fl.t") => `(tactic| (with_reducible refine g_slc ?_))
local macro_rules | `(tactic| walk_at "fl.t") => `(tactic| (with_reducible refine g_callL2 ?_))
local macro_rules | `(tactic| walk_at "fl.t") => `(tactic| (with_reducible refine g_rng3 ?_))
local macro_rules | `(tactic| walk_at "fl.t") => `(tactic| (with_reducible refine g_rev ?_))
local macro_rules | `(tactic| walk_at "fl.w") => `(tactic| repeat walk_at "fl.t")
def spWo1 (K : PySem.W.Frag) (c : Cs) (lb : Expr) (W : List (Option V) → List Addr → Hp → FoV → Prop) (back : Bool) (val : FoV → LkV → List Int → List ItV → List ItV) : NdefX.NF → List (Option V) → Sp := fun F ws vs H Q _ => ∃ (S : List Addr) (f : FoV) (l : Nat) (k : LkV) (run : List ItV) (fs : List Int) (v1 v3 : V) (p g : Addr), vs = [v1, .int l, v3, .ref p, .ref g] ∧ Al S H ∧ Dq S H v1 (foD c f.R) ∧ W ws S H f ∧ Dq S H v3 (ruD run) ∧ (SqL K H p (fs.map V.int) ∨ SqT K H p (fs.map V.int)) ∧ f.Ok ∧ (∀ k, k ∈ f.lks → Out3 k) ∧ f.lks[l]? = some k ∧ decide (k.kind = "reverse") = back ∧ RunOk f run ∧ 3 * run.length < 1000 ∧ LmH H g F lb ∧
  ∀ b H', Same H H' → H b = none → Dq S H' (.ref b) (ruD (val f k fs run)) → Q (.ref b) H'
theorem sq_same {K : PySem.W.Frag} {H H' : Hp} {p : Addr} {xs : List V} (h : SqL K H p xs ∨ SqT K H p xs) (s : Same H H') : SqL K H' p xs ∨ SqT K H' p xs := h.imp (fun h => Same.seq s h) (fun h => Fl.Same.t s h)
theorem won_s {f : FoV} {k : LkV} {fs : List Int} {n : Nat} {run : List ItV} {a : Nat} : wonV f k fs (n + 1) run a = if a < run.length then match mtV f k run a fs with
      | none => wonV f k fs n run (a + 1)
      | some i => match k.rules[i]? with
        | none => run
        | some r => wonV f k fs n (run.take a ++ becV f k r run (tkV f k r run a) ++ run.drop (lsN (tkV f k r run a) + 1)) (a + (becV f k r run (tkV f k r run a)).length)
    else run := rfl
theorem ok_walked_on (T : Txt K mg) (R : RuleAt K RA W) : HasL P w K mg base (ZL P w K mg base lb fr RA) fr 12 "walked_on" ps_walked_on (spWo1 K (cs mg) lb W false fun f k fs run => wonV f k fs run.length run 0) := by
  obtain ⟨_, _, _, _, _, _, _, _, _, _, _, _, _, _, cF⟩ := T.c_Font
  have clF := cF.cl
  have naF := cF.na
  obtain ⟨_, _, _, _, _, _, _, _, cR⟩ := T.c_Rule
  have clR := cR.cl
  have naR := cR.na
  have clL := T.c_Lookup.cl
  have naL := T.c_Lookup.na
  have h_seen_items := ok_seen_items (P := P) (w := w) (base := base) T
  have hL_what_becomes := ok_what_becomes (P := P) (w := w) (base := base) (lb := lb) (fr := fr) T R
  refine hasL_of T.d_walked_on sc_walked_on bd_walked_on (fun F ws vs H Q E h => ?_) (fun f cdv A outer s H vs Q E F ws hz hC hr h => ?_)
  · obtain ⟨S, f, l, k, run, fs, v1, v3, p, g, rfl, _⟩ := h
    rfl
  · obtain ⟨S, fo, l, k, run, fs, v1, v3, pf, g, rfl, hS, h1, hW, h3, hfs, fok, ho3, hk, hback, hrun, h1000, hL, q⟩ := h
    have nr : k.kind ≠ "reverse" := of_decide_eq_false hback
    have h1' := h1
    have h3' := h3
    obtain ⟨fa, fdx, w1, w2, w3, w4, w5, w6, w7, w8, w9, rfl, fna, fA, j1, j2, j3, j4, j5, j6, j7, j8, j9⟩ := foE h1'
    obtain ⟨lb2, ls, rfl, hlb, hll, hlD⟩ := lstN j4
    obtain ⟨xl, hxl, hxlD⟩ := hlD.getD (i := l) (d := lkD (cs mg) k.R) (by show ((fo.lks.map LkV.R).map _)[l]? = _; rw [List.getElem?_map, List.getElem?_map, hk]; rfl)
    obtain ⟨la, ldx, l1, l2, l3, rfl, _, hlA, m1, m2, m3⟩ := lkE hxlD
    obtain ⟨rb, rs, rfl, hrb, hrl, hrD⟩ := lstN m2
    have hatl : atI ls (l : Int) = some (.ref la) := atI_nat (j := l) hxl
    obtain ⟨rr, xs, rfl, nrr, hr', hX⟩ := h3'.lstE
    have hkm := List.mem_of_getElem? hk
    have hkd := (fok.lo k hkm).k
    refine ⟨_, (pss_cons (ps_set (i := 5) sc_walked_on.nd rfl (.inl rfl) (pe_callTy (clList (K := K) rfl) (by rfl) T.z_list (by decide +kernel) (pa_cons (pv 2) pa_nil)))
      (pss_cons (ps_set (i := 6) sc_walked_on.nd rfl (.inl rfl) pe_int)
      (pss_cons (ps_while PassesOwn.never (pt_cmpR op_lt (pv 6) (pe_callB (clLen (K := K) rfl) (by rfl) T.z_len (by decide +kernel) (pa_cons (pv 5) pa_nil)) (nomark _))
        (pss_cons (ps_set (i := 7) sc_walked_on.nd rfl (.inl rfl) (pe_callLm (i := 4) hz (fun I => cells_later hC rfl I) (hr.mono (by decide)) rfl (.inl rfl) (pa_cons (pv 1) (pa_cons (pv 5) (pa_cons (pv 6) (pa_cons (pv 3) pa_nil))))))
      (pss_one (ps_if (pt_cmpR op_isN (pv 7) pe_non (nomark _))
        (pss_one (ps_aug (i := 6) sc_walked_on.nd rfl (.inl rfl) pe_int ip_add))
        (pss_cons (ps_set (i := 8) sc_walked_on.nd rfl (.inl rfl) (pe_ix (ixL (K := K) rfl) (peFld (K := K) rfl (pe_ix (ixL (K := K) rfl) (peFld (K := K) rfl (pv 0) rfl) (pv 1) (fun _ _ => rfl)) rfl) (pv 7) (fun _ _ => rfl)))
      (pss_cons (ps_set (i := 9) sc_walked_on.nd rfl (.inl rfl) (pe_h h_seen_items (hr.mono (by decide)) (pa_cons (pv 0) (pa_cons (pv 1) (pa_cons (pv 5) (pa_cons (pv 6) (pa_cons pe_int (pa_cons (pe_callB (clLen (K := K) rfl) (by rfl) T.z_len (by decide +kernel) (pa_cons (peFld (K := K) rfl (pv 8) rfl) pa_nil)) pa_nil))))))))
      (pss_cons (ps_set (i := 10) sc_walked_on.nd rfl (.inl rfl) (pe_hL hL_what_becomes (mk := fun _ => F) (ws := fun _ => ws) (fun _ => hz) (fun _ I => cells_later hC rfl I) (hr.mono (by decide)) (pa_cons (pv 0) (pa_cons (pv 1) (pa_cons (pv 8) (pa_cons (pv 5) (pa_cons (pv 9) (pa_cons (pv 4) pa_nil))))))))
      (pss_cons (ps_asg (pv 10) (pg_slc (pv 5) (po_some (pv 6)) (po_some (pe_op op_add (pe_ix (ixL (K := K) rfl) (pv 9) (pe_un un_neg pe_int) (fun _ _ => rfl)) pe_int))))
      (pss_one (ps_aug (i := 6) sc_walked_on.nd rfl (.inl rfl) (pe_callB (clLen (K := K) rfl) (by rfl) T.z_len (by decide +kernel) (pa_cons (pv 10) pa_nil)) ip_add))))))))))
      (pss_one (ps_ret (pv 5)))))), ?_⟩
    walk_at "fl.w"
    rename_i D hD
    have nD : D ∉ S := hS.ni hD
    have sD : Same H (upd H D (.lst xs)) := Fl.Same.new hD
    have eD : upd H D (.lst xs) D = some (.lst xs) := upd_same
    have dD : DqA (D :: S) (upd H D (.lst xs)) xs (run.map ItV.D) := its_off eD (hX.same sD)
    generalize upd H D (.lst xs) = G at sD eD dD ⊢
    refine ⟨fun m σ' H' => ∃ (n a : Nat) (cur : List ItV) (ys : List V) (u7 u8 u9 u10 : Option V), σ' = [some (.ref fa), some (.int (l : Int)), some (.ref rr), some (.ref pf), some (.ref g), some (.ref D), some (.int (a : Int)), u7, u8, u9, u10] ∧ m = cur.length - a ∧ a ≤ cur.length ∧ cur.length - a ≤ n ∧ wonV fo k fs n cur a = wonV fo k fs run.length run 0 ∧ Same H H' ∧ H' D = some (.lst ys) ∧ DqA (D :: S) H' ys (cur.map ItV.D) ∧ (∀ x, x ∈ cur → x.g < fo.glyphs.length) ∧ cur.length + 2 * (cur.length - a) ≤ 3 * run.length, ⟨run.length, run.length, 0, run, xs, _, _, _, _, rfl, rfl, Nat.zero_le _, Nat.le_refl _, rfl, sD, eD, dD, hrun.1, by omega⟩, ?_⟩
    rintro m σ' H' ⟨n, a, cur, ys, u7, u8, u9, u10, rfl, rfl, hac, hn, heq, sm, hy, dy, hg, hsz⟩
    have hyl : ys.length = cur.length := by rw [dy.len, List.length_map]
    have hcur : Dq S H' (.ref D) (ruD cur) := .lst nD hy dy.tail
    have cok : RunOk fo cur := ⟨hg, by omega⟩
    walk_at "fl.w"
    by_cases c : a < cur.length
    case neg =>
      refine g_noB (show ¬ ((a : Int) < (ys.length : Int)) by omega) ?_
      walk_at "fl.w"
      have e1 : wonV fo k fs n cur a = cur := by
        cases n with
        | zero => rfl
        | succ n => unfold wonV; rw [if_neg c]
      have hw : cur = wonV fo k fs run.length run 0 := e1.symm.trans heq
      refine q D H' sm hD ?_
      show Dq S H' (.ref D) (ruD (wonV fo k fs run.length run 0))
      rw [← hw]
      exact hcur
    refine g_yesB (show (a : Int) < (ys.length : Int) by omega) ?_
    obtain ⟨n, rfl⟩ : ∃ n', n = n' + 1 := ⟨n - 1, by omega⟩
    walk_at "fl.w"
    refine ⟨_, fun _ _ h => h, ?_⟩
    have hL' := hL.same sm
    refine g_callLm rfl hL'.f ?_
    walk_at "fl.w"
    refine ⟨hL', R.ra (l := l) (a := a) (k := k) (run := cur) (fs := fs) (R.same hW sm) (hS.same sm) hcur (sq_same hfs sm) fok hk cok c (fun H2 sm2 => ?_)⟩
    have s2 := sm.trans sm2
    have hy2 := sm2 _ _ hy
    have dy2 : DqA (D :: S) H2 ys (cur.map ItV.D) := dy.same sm2
    rw [won_s, if_pos c] at heq
    cases hm : mtV fo k cur a fs with
    | none =>
      rw [hm] at heq
      show gName 7 V.non _ H2 _
      walk_at "fl.w"
      refine g_ite (fun _ => ?_) (fun z => absurd rfl z)
      walk_at "fl.w"
      exact ⟨cur.length - (a + 1), by omega, n, a + 1, cur, ys, _, _, _, _, rfl, rfl, by omega, by omega, heq, s2, hy2, dy2, hg, by omega⟩
    | some i =>
      obtain ⟨r, L, hri, hmat⟩ := mt_some hm
      have rok := ro_of fok hkm hri
      have tk := tk_ok c rok.i3.1 hmat
      have be : BeOk fo k r cur a L := ⟨tk, rok⟩
      have pl := be.pl
      have e0 := tk.hdE
      have heq2 : (match k.rules[i]? with
        | none => cur
        | some r => wonV fo k fs n (cur.take a ++ becV fo k r cur (tkV fo k r cur a) ++ cur.drop (lsN (tkV fo k r cur a) + 1)) (a + (becV fo k r cur (tkV fo k r cur a)).length)) = wonV fo k fs run.length run 0 := by
        rw [hm] at heq
        exact heq
      rw [hri] at heq2
      have heq3 : wonV fo k fs n (cur.take a ++ becV fo k r cur L ++ cur.drop (lsN L + 1)) (a + (becV fo k r cur L).length) = wonV fo k fs run.length run 0 := by
        rw [tk.e]
        exact heq2
      clear heq heq2
      obtain ⟨xr, hxr, hxrD⟩ := hrD.getD (i := i) (d := insD (cs mg).R r.R.F) (by show ((k.rules.map RuV.R).map _)[i]? = _; rw [List.getElem?_map, List.getElem?_map, hri]; rfl)
      have hxrD' := hxrD
      obtain ⟨ra, rdx, t1, t2, t3, t4, t5, t6, rfl, rna, rA, k1, k2, k3, k4, k5, k6⟩ := ruE hxrD'
      rw [RuV.ins] at k1
      obtain ⟨b1, zs1, rfl, nb1, hb1, lb1, _⟩ := setsE k1
      have hatr : atI rs (i : Int) = some (.ref ra) := atI_nat (j := i) hxr
      have fA2 := s2 _ _ fA
      have hlb2 := s2 _ _ hlb
      have hlA2 := s2 _ _ hlA
      have hrb2 := s2 _ _ hrb
      have rA2 := s2 _ _ rA
      have hb12 := s2 _ _ hb1
      have nint : ¬ (V.int (i : Int) = V.non) := fun z => by cases z
      have i4 := rok.i3.2
      show gName 7 (V.int (i : Int)) _ H2 _
      walk_at "fl.w"
      refine g_ite (fun z => absurd z nint) (fun _ => ?_)
      walk_at "fl.w"
      have hcur2 : Dq S H2 (.ref D) (ruD cur) := hcur.same sm2
      refine spD_app S [foD (cs mg) fo.R, .int l, ruD cur, .int a, .int 1, .int (zs1.length : Int)] (natsD L) (hS.same s2) (.cons (h1.same s2) (.cons (.int _) (.cons hcur2 (.cons (.int _) (.cons (.int _) (.cons (.int _) .nil)))))) ⟨fo, l, k, cur, a, 1, _, (List.range (cur.length - a)).map (a + ·), rfl, hk, cok, trail_up cur.length (cur.length - a) a (by omega), by simp, by
        have e3 : (zs1.length : Int).toNat = r.inside.length := by omega
        rw [e3, tk.e]
        rfl⟩ (fun v H3 sm3 hv => ?_)
      have s3 := s2.trans sm3
      have hv' := hv
      obtain ⟨ma, rfl, nma, hma⟩ := natsE hv'
      walk_at "fl.w"
      refine ⟨0, S, fo, l, a, k, r, cur, L, _, .ref ra, .ref D, .ref ma, g, rfl, hS.same s3, h1.same s3, R.same hW s3, hxrD.same s3, hcur2.same sm3, hv, fok, hk, nr, cok, c, be, hL.same s3, fun b H4 sm4 hb hbd => ?_⟩
      have s4 := s3.trans sm4
      obtain ⟨_, zs, ez, nb, hzs, hZ2⟩ := hbd.lstE
      cases ez
      have hy3 := (sm3.trans sm4) _ _ hy2
      have npb : D ≠ b := fun z => by
        have := sm3 _ _ hy2
        rw [z, hb] at this
        cases this
      have hzl : zs.length = (becV fo k r cur L).length := by rw [hZ2.len, List.length_map]
      have hbl := bec_len be hkm (List.mem_of_getElem? hri) ho3 hkd nr
      have hll2 := pl.lt _ (ls_mem pl.ne)
      have hle2 := pl.le
      have hma4 := sm4 _ _ hma
      have hL1 := zI_last pl.ne
      walk_at "fl.w"
      refine slc_end a (lsN L + 1) hy3 hzs npb rfl (by omega) (by omega) (by omega) (by omega) ?_
      have hzs5 : upd H4 D (.lst (ys.take a ++ zs ++ ys.drop (lsN L + 1))) b = some (.lst zs) := by rw [upd_ne (Ne.symm npb)]; exact hzs
      walk_at "fl.w"
      have hnl : (cur.take a ++ becV fo k r cur L ++ cur.drop (lsN L + 1)).length = a + (becV fo k r cur L).length + (cur.length - (lsN L + 1)) := by
        rw [List.length_append, List.length_append, List.length_take, List.length_drop]
        omega
      refine ⟨cur.length - (lsN L + 1), by omega, n, a + (becV fo k r cur L).length, _, _, _, _, _, _, by rw [show ((a + (becV fo k r cur L).length : Nat) : Int) = (a : Int) + (zs.length : Int) by omega]; rfl, by rw [hnl]; omega, by rw [hnl]; omega, by rw [hnl]; omega, heq3, fun x o nn => ?_, upd_same, ?_, ?_, by rw [hnl]; omega⟩
      · have n2 := s4 _ _ nn
        rw [upd_ne (fun z => by rw [z, hD] at nn; cases nn)]
        exact n2
      · rw [List.map_append, List.map_append, List.map_take, List.map_drop]
        have dy4 : DqA (D :: S) H4 ys (cur.map ItV.D) := dy2.same (sm3.trans sm4)
        exact (((dy4.take _).app (its_off hy3 hZ2)).app (dy4.drop _)).fr (Fr.upd (by simp))
      · intro x mx
        rcases List.mem_append.mp mx with mx | mx
        · rcases List.mem_append.mp mx with mx | mx
          · exact hg x (List.mem_of_mem_take mx)
          · exact bec_g fok be c hg x mx
        · exact hg x (List.mem_of_mem_drop mx)
end

section
variable {P : Program} {w : World} {K : PySem.W.Frag} {mg : Str → Option Value} {base : Heap} {lb : Expr} {fr : List Str} {RA : List (Option V) → Sp} {W : List (Option V) → List Addr → Hp → FoV → Prop}
local macro_rules | `(tactic| walk_at "fl.t") => `(tactic| (with_reducible refine g_callL2 ?_))
local macro_rules | `(tactic| walk_at "fl.t") => `(tactic| (with_reducible refine g_rng3 ?_))
local macro_rules | `(tactic| walk_at "fl.w") => `(tactic| repeat walk_at "fl.t")
theorem g_subA {to ti : TE} {t : TSet} {v : V} {σ : L2.St} {H : Hp} {Q : L2.St → Hp → Prop} (h : to σ H fun x H1 => ti σ H1 fun y H2 => t x y v H2 (Q σ)) : gSub to ti t v σ H Q := h
theorem dqA_put {S : List Addr} {H : Hp} {v : V} {d : PyData} : ∀ {vs : List V} {ds : List PyData} {i : Nat}, DqA S H vs ds → Dq S H v d → DqA S H (vs.set i v) (ds.set i d)
  | [], _, _, h, _ => by cases h; exact .nil
  | x :: vs, _, 0, h, k => by
    cases h with
    | cons a b => exact .cons k b
  | x :: vs, _, i + 1, h, k => by
    cases h with
    | cons a b => exact .cons a (dqA_put b k)
theorem wbk_len {f : FoV} {k : LkV} {fs : List Int} {run : List ItV} {a : Nat} : (wbk1 f k fs run a).length = run.length := by
  unfold wbk1
  split
  · rfl
  · split
    · rw [List.length_set]
    · rfl
theorem wbkV_len {f : FoV} {k : LkV} {fs : List Int} : ∀ (n : Nat) (run : List ItV), (wbkV f k fs n run).length = run.length
  | 0, _ => rfl
  | n + 1, run => by
    show (wbkV f k fs n (wbk1 f k fs run n)).length = _
    rw [wbkV_len n, wbk_len]
theorem sw_g {f : FoV} {r : RuV} {it : ItV} (h : SwOk f r it.g) : (swpV f r it).g < f.glyphs.length := by
  obtain ⟨_, _, _, _, _, _, z⟩ := h.get
  exact z
theorem ok_walked_back (T : Txt K mg) (R : RuleAt K RA W) : HasL P w K mg base (ZL P w K mg base lb fr RA) fr 12 "walked_back" ps_walked_back (spWo1 K (cs mg) lb W true fun f k fs run => wbkV f k fs run.length run) := by
  obtain ⟨_, _, _, _, _, _, _, _, _, _, _, _, _, _, cF⟩ := T.c_Font
  have clF := cF.cl
  have naF := cF.na
  have clL := T.c_Lookup.cl
  have naL := T.c_Lookup.na
  have h_swapped := ok_swapped (P := P) (w := w) (base := base) T
  refine hasL_of T.d_walked_back sc_walked_back bd_walked_back (fun F ws vs H Q E h => ?_) (fun f cdv A outer s H vs Q E F ws hz hC hr h => ?_)
  · obtain ⟨S, f, l, k, run, fs, v1, v3, p, g, rfl, _⟩ := h
    rfl
  · obtain ⟨S, fo, l, k, run, fs, v1, v3, pf, g, rfl, hS, h1, hW, h3, hfs, fok, ho3, hk, hback, hrun, h1000, hL, q⟩ := h
    have hkr : k.kind = "reverse" := of_decide_eq_true hback
    have h1' := h1
    have h3' := h3
    obtain ⟨fa, fdx, w1, w2, w3, w4, w5, w6, w7, w8, w9, rfl, fna, fA, j1, j2, j3, j4, j5, j6, j7, j8, j9⟩ := foE h1'
    obtain ⟨lb2, ls, rfl, hlb, hll, hlD⟩ := lstN j4
    obtain ⟨xl, hxl, hxlD⟩ := hlD.getD (i := l) (d := lkD (cs mg) k.R) (by show ((fo.lks.map LkV.R).map _)[l]? = _; rw [List.getElem?_map, List.getElem?_map, hk]; rfl)
    obtain ⟨la, ldx, l1, l2, l3, rfl, _, hlA, m1, m2, m3⟩ := lkE hxlD
    obtain ⟨rb, rs, rfl, hrb, hrl, hrD⟩ := lstN m2
    have hatl : atI ls (l : Int) = some (.ref la) := atI_nat (j := l) hxl
    obtain ⟨rr, xs, rfl, nrr, hr', hX⟩ := h3'.lstE
    have hxl : xs.length = run.length := by rw [hX.len, List.length_map]
    have hkm := List.mem_of_getElem? hk
    refine ⟨_, (pss_cons (ps_set (i := 5) sc_walked_back.nd rfl (.inl rfl) (pe_callTy (clList (K := K) rfl) (by rfl) T.z_list (by decide +kernel) (pa_cons (pv 2) pa_nil)))
      (pss_cons (ps_for PassesOwn.never rfl (pi_range3 (by rfl) T.z_range (pa_cons (pe_op op_sub (pe_callB (clLen (K := K) rfl) (by rfl) T.z_len (by decide +kernel) (pa_cons (pv 5) pa_nil)) pe_int) (pa_cons (pe_un un_neg pe_int) (pa_cons (pe_un un_neg pe_int) pa_nil)))) (pg_name (i := 6) sc_walked_back.nd rfl (.inl rfl))
        (pss_cons (ps_set (i := 7) sc_walked_back.nd rfl (.inl rfl) (pe_callLm (i := 4) hz (fun I => cells_later hC rfl I) (hr.mono (by decide)) rfl (.inl rfl) (pa_cons (pv 1) (pa_cons (pv 5) (pa_cons (pv 6) (pa_cons (pv 3) pa_nil))))))
      (pss_one (ps_if (pt_cmpR op_notN (pv 7) pe_non (nomark _))
        (pss_one (ps_asg (pe_h h_swapped (hr.mono (by decide)) (pa_cons (pv 0) (pa_cons (pe_ix (ixL (K := K) rfl) (peFld (K := K) rfl (pe_ix (ixL (K := K) rfl) (peFld (K := K) rfl (pv 0) rfl) (pv 1) (fun _ _ => rfl)) rfl) (pv 7) (fun _ _ => rfl)) (pa_cons (pe_ix (ixL (K := K) rfl) (pv 5) (pv 6) (fun _ _ => rfl)) pa_nil)))) (pg_sub (pv 5) (pv 6) set_list)))
        pss_nil))))
      (pss_one (ps_ret (pv 5))))), ?_⟩
    walk_at "fl.w"
    rename_i D hD
    have nD : D ∉ S := hS.ni hD
    have sD : Same H (upd H D (.lst xs)) := Fl.Same.new hD
    have eD : upd H D (.lst xs) D = some (.lst xs) := upd_same
    have dD : DqA (D :: S) (upd H D (.lst xs)) xs (run.map ItV.D) := its_off eD (hX.same sD)
    generalize upd H D (.lst xs) = G at sD eD dD ⊢
    walk_at "fl.w"
    refine ⟨(xs.length : Int) - 1, -1, -1, xs.length, rfl, ?_, ?_⟩
    · have := RgC.neg (i := (xs.length : Int) - 1) (j := -1) (by omega) (by omega) (by omega) (by omega)
      rw [show ((xs.length : Int) - 1 - -1).toNat = xs.length by omega] at this
      exact this
    refine forK_c (fun i σ' H' => (∃ u6 u7, σ' = [some (.ref fa), some (.int (l : Int)), some (.ref rr), some (.ref pf), some (.ref g), some (.ref D), u6, u7]) ∧ Same H H' ∧ ∃ (cur : List ItV) (ys : List V), cur.length = run.length ∧ wbkV fo k fs (run.length - i) cur = wbkV fo k fs run.length run ∧ H' D = some (.lst ys) ∧ DqA (D :: S) H' ys (cur.map ItV.D) ∧ (∀ x, x ∈ cur → x.g < fo.glyphs.length)) ⟨⟨_, _, rfl⟩, sD, run, xs, rfl, rfl, eD, dD, hrun.1⟩ ?_ ?_
    · intro i σ' H' hi ⟨⟨u6, u7, e⟩, sm, cur, ys, hcl, heq, hy, dy, hg⟩
      subst e
      obtain ⟨a, ha⟩ : ∃ a, run.length - i = a + 1 := ⟨run.length - i - 1, by omega⟩
      rw [show (xs.length : Int) - 1 + ((i : Nat) : Int) * -1 = ((a : Nat) : Int) by omega]
      rw [ha] at heq
      have heq : wbkV fo k fs a (wbk1 fo k fs cur a) = wbkV fo k fs run.length run := heq
      have hyl : ys.length = cur.length := by rw [dy.len, List.length_map]
      have hac : a < cur.length := by omega
      have hcur : Dq S H' (.ref D) (ruD cur) := .lst nD hy dy.tail
      have cok : RunOk fo cur := ⟨hg, by omega⟩
      have hL' := hL.same sm
      walk_at "fl.w"
      refine g_callLm rfl hL'.f ?_
      walk_at "fl.w"
      refine ⟨hL', R.ra (l := l) (a := a) (k := k) (run := cur) (fs := fs) (R.same hW sm) (hS.same sm) hcur (sq_same hfs sm) fok hk cok hac (fun H2 sm2 => ?_)⟩
      have s2 := sm.trans sm2
      have hy2 := sm2 _ _ hy
      have dy2 : DqA (D :: S) H2 ys (cur.map ItV.D) := dy.same sm2
      cases hm : mtV fo k cur a fs with
      | none =>
        have e1 : wbk1 fo k fs cur a = cur := by unfold wbk1; rw [hm]
        rw [e1] at heq
        show gName 7 V.non _ H2 _
        walk_at "fl.w"
        refine g_iteN (fun z => absurd rfl z) (fun _ => ?_)
        walk_at "fl.w"
        exact ⟨⟨_, _, rfl⟩, s2, cur, ys, hcl, by rw [show run.length - (i + 1) = a by omega]; exact heq, hy2, dy2, hg⟩
      | some j =>
        obtain ⟨r, L, hri, hmat⟩ := mt_some hm
        have rok := ro_of fok hkm hri
        have tk := tk_ok hac rok.i3.1 hmat
        obtain ⟨it, t, hit, hat, nt, ht⟩ := run_at dy2 hac
        have sw := tk.sw rok (.inr hkr) hit
        have e1 : wbk1 fo k fs cur a = cur.set a (swpV fo r it) := by
          unfold wbk1
          rw [hm]
          show (match k.rules[j]?, cur[a]? with | some r, some it => cur.set a (swpV fo r it) | _, _ => cur) = _
          rw [hri, hit]
        rw [e1] at heq
        obtain ⟨xr, hxr, hxrD⟩ := hrD.getD (i := j) (d := insD (cs mg).R r.R.F) (by show ((k.rules.map RuV.R).map _)[j]? = _; rw [List.getElem?_map, List.getElem?_map, hri]; rfl)
        have hatr : atI rs (j : Int) = some xr := atI_nat (j := j) hxr
        have fA2 := s2 _ _ fA
        have hlb2 := s2 _ _ hlb
        have hlA2 := s2 _ _ hlA
        have hrb2 := s2 _ _ hrb
        have nint : ¬ (V.int (j : Int) = V.non) := fun z => by cases z
        show gName 7 (V.int (j : Int)) _ H2 _
        walk_at "fl.w"
        refine g_iteN (fun _ => ?_) (fun z => absurd z nint)
        walk_at "fl.w"
        refine spD_app S [foD (cs mg) fo.R, insD (cs mg).R r.R.F, it.D] (swpV fo r it).D (hS.same s2) (.cons (h1.same s2) (.cons (hxrD.same s2) (.cons (itI (fun m => nt (List.mem_cons_of_mem _ m)) ht) .nil))) ⟨fo, r, it, rfl, sw, rfl⟩ (fun v H3 sm3 hv => ?_)
        have hy3 := sm3 _ _ hy2
        walk_at "fl.w"
        refine g_subA ?_
        walk_at "fl.w"
        refine g_setL (k := ((a : Nat) : Int)) (j := a) hy3 (show (if (0 : Int) ≤ (a : Int) then (if (a : Int) < (ys.length : Int) then some ((a : Int)).toNat else none) else _) = some a by rw [if_pos (by omega), if_pos (by omega), Int.toNat_natCast]) ?_
        walk_at "fl.w"
        refine ⟨⟨_, _, rfl⟩, fun x o nn => ?_, cur.set a (swpV fo r it), ys.set a v, by rw [List.length_set]; exact hcl, by rw [show run.length - (i + 1) = a by omega]; exact heq, upd_same, ?_, ?_⟩
        · have n2 := sm3 _ _ (s2 _ _ nn)
          rw [upd_ne (fun z => by rw [z, hD] at nn; cases nn)]
          exact n2
        · rw [List.map_set]
          exact (dqA_put (dy2.same sm3) (it_off hv hy3)).fr (Fr.upd (by simp))
        · intro x mx
          rcases List.mem_or_eq_of_mem_set mx with mx | rfl
          · exact hg x mx
          · exact sw_g sw
    · intro σ' H' ⟨⟨u6, u7, e⟩, sm, cur, ys, hcl, heq, hy, dy, hg⟩
      subst e
      rw [show run.length - xs.length = 0 by omega] at heq
      have heq : cur = wbkV fo k fs run.length run := heq
      walk_at "fl.w"
      refine q D H' sm hD ?_
      show Dq S H' (.ref D) (ruD (wbkV fo k fs run.length run))
      rw [← heq]
      exact .lst nD hy dy.tail
end
section
variable {P : Program} {w : World} {K : PySem.W.Frag} {mg : Str → Option Value} {base : Heap} {lb : Expr} {fr : List Str} {RA : List (Option V) → Sp} {W : List (Option V) → List Addr → Hp → FoV → Prop}
local macro_rules | `(tactic| walk_at "fl.t") => `(tactic| (with_reducible refine g_callL2 ?_))
local macro_rules | `(tactic| walk_at "fl.w") => `(tactic| repeat walk_at "fl.t")
/-- the items in the end are no more than three for one -/
theorem won_len {f : FoV} {k : LkV} {fs : List Int} (fok : f.Ok) (hk : k ∈ f.lks) (ho : ∀ k, k ∈ f.lks → Out3 k) (nr : k.kind ≠ "reverse") : ∀ (n : Nat) (run : List ItV) (a : Nat), a ≤ run.length → (wonV f k fs n run a).length ≤ run.length + 2 * (run.length - a)
  | 0, run, a, _ => by unfold wonV; omega
  | n + 1, run, a, ha => by
    rw [won_s]
    split
    · rename_i c
      cases hm : mtV f k run a fs with
      | none =>
        show (wonV f k fs n run (a + 1)).length ≤ _
        have := won_len (fs := fs) fok hk ho nr n run (a + 1) (by omega)
        omega
      | some i =>
        obtain ⟨r, L, hri, hmat⟩ := mt_some hm
        have rok := ro_of fok hk hri
        have tk := tk_ok c rok.i3.1 hmat
        have be : BeOk f k r run a L := ⟨tk, rok⟩
        have hbl := bec_len be hk (List.mem_of_getElem? hri) ho (fok.lo k hk).k nr
        have e0 := tk.hdE
        have l1 := be.pl.lt _ (ls_mem be.pl.ne)
        have l2 := be.pl.le
        show (match k.rules[i]? with
          | none => run
          | some r => wonV f k fs n (run.take a ++ becV f k r run (tkV f k r run a) ++ run.drop (lsN (tkV f k r run a) + 1)) (a + (becV f k r run (tkV f k r run a)).length)).length ≤ _
        rw [hri]
        show (wonV f k fs n (run.take a ++ becV f k r run (tkV f k r run a) ++ run.drop (lsN (tkV f k r run a) + 1)) (a + (becV f k r run (tkV f k r run a)).length)).length ≤ _
        rw [← tk.e]
        have hnl : (run.take a ++ becV f k r run L ++ run.drop (lsN L + 1)).length = a + (becV f k r run L).length + (run.length - (lsN L + 1)) := by
          rw [List.length_append, List.length_append, List.length_take, List.length_drop]
          omega
        have := won_len (fs := fs) fok hk ho nr n (run.take a ++ becV f k r run L ++ run.drop (lsN L + 1)) (a + (becV f k r run L).length) (by rw [hnl]; omega)
        rw [hnl] at this
        omega
    · omega
theorem ap_len {f : FoV} {k : LkV} {fs : List Int} {run : List ItV} (fok : f.Ok) (hk : k ∈ f.lks) (ho : ∀ k, k ∈ f.lks → Out3 k) : (apV f k fs run).length ≤ 3 * run.length := by
  unfold apV
  split
  · rw [wbkV_len]; omega
  · rename_i nr
    have := won_len (fs := fs) fok hk ho nr run.length run 0 (Nat.zero_le _)
    omega
def spAp (K : PySem.W.Frag) (c : Cs) (lb : Expr) (W : List (Option V) → List Addr → Hp → FoV → Prop) : NdefX.NF → List (Option V) → Sp := fun F ws vs H Q _ => ∃ (S : List Addr) (f : FoV) (l : Nat) (k : LkV) (run : List ItV) (fs : List Int) (v1 v3 : V) (p g : Addr), vs = [v1, .int l, v3, .ref p, .ref g] ∧ Al S H ∧ Dq S H v1 (foD c f.R) ∧ W ws S H f ∧ Dq S H v3 (ruD run) ∧ (SqL K H p (fs.map V.int) ∨ SqT K H p (fs.map V.int)) ∧ f.Ok ∧ (∀ k, k ∈ f.lks → Out3 k) ∧ f.lks[l]? = some k ∧ RunOk f run ∧ 3 * run.length < 1000 ∧ LmH H g F lb ∧
  ∀ b H', Same H H' → H b = none → Dq S H' (.ref b) (ruD (apV f k fs run)) → Q (.ref b) H'
theorem ok_applied (T : Txt K mg) (R : RuleAt K RA W) : HasL P w K mg base (ZL P w K mg base lb fr RA) fr 13 "applied" ps_applied (spAp K (cs mg) lb W) := by
  obtain ⟨_, _, _, _, _, _, _, _, _, _, _, _, _, _, cF⟩ := T.c_Font
  have clF := cF.cl
  have naF := cF.na
  have clL := T.c_Lookup.cl
  have naL := T.c_Lookup.na
  have hL_walked_on := ok_walked_on (P := P) (w := w) (base := base) (lb := lb) (fr := fr) T R
  have hL_walked_back := ok_walked_back (P := P) (w := w) (base := base) (lb := lb) (fr := fr) T R
  refine hasL_of T.d_applied sc_applied bd_applied (fun F ws vs H Q E h => ?_) (fun f cdv A outer s H vs Q E F ws hz hC hr h => ?_)
  · obtain ⟨S, f, l, k, run, fs, v1, v3, p, g, rfl, _⟩ := h
    rfl
  · obtain ⟨S, fo, l, k, run, fs, v1, v3, pf, g, rfl, hS, h1, hW, h3, hfs, fok, ho3, hk, hrun, h1000, hL, q⟩ := h
    have h1' := h1
    obtain ⟨fa, fdx, w1, w2, w3, w4, w5, w6, w7, w8, w9, rfl, fna, fA, j1, j2, j3, j4, j5, j6, j7, j8, j9⟩ := foE h1'
    obtain ⟨lb2, ls, rfl, hlb, hll, hlD⟩ := lstN j4
    obtain ⟨xl, hxl, hxlD⟩ := hlD.getD (i := l) (d := lkD (cs mg) k.R) (by show ((fo.lks.map LkV.R).map _)[l]? = _; rw [List.getElem?_map, List.getElem?_map, hk]; rfl)
    obtain ⟨la, ldx, l1, l2, l3, rfl, _, hlA, m1, m2, m3⟩ := lkE hxlD
    cases m1
    have hatl : atI ls (l : Int) = some (.ref la) := atI_nat (j := l) hxl
    have hkm := List.mem_of_getElem? hk
    have hkd := (fok.lo k hkm).k
    have hal := ap_len (fs := fs) (run := run) fok hkm ho3
    have hgs := T.gs_REPLACING H
    have hin : inV (.str k.kind) [.str "single", .str "multiple", .str "ligature", .str "chain", .str "reverse"] = true := by
      simp only [kindsR, List.mem_cons, List.not_mem_nil, or_false] at hkd
      rcases hkd with z | z | z | z | z <;> (rw [z]; rfl)
    refine ⟨_, (pss_cons (ps_set (i := 5) sc_applied.nd rfl (.inl rfl) (peFld (K := K) rfl (pe_ix (ixL (K := K) rfl) (peFld (K := K) rfl (pv 0) rfl) (pv 1) (fun _ _ => rfl)) rfl))
      (pss_cons (ps_if (pt_cmpR (opNotIn (K := K) rfl) (pv 5) (pe_glob (by rfl) T.gt_REPLACING (v := .ref (adr mg "REPLACING")) rfl) (by rfl))
        (pss_one (ps_ret (pe_callTy (clList (K := K) rfl) (by rfl) T.z_list (by decide +kernel) (pa_cons (pv 2) pa_nil))))
        pss_nil)
      (pss_cons (ps_if (pt_cmpR op_eq (pv 5) pe_str (nomark _))
        (pss_one (ps_set (i := 6) sc_applied.nd rfl (.inl rfl) (pe_hL hL_walked_back (mk := fun _ => F) (ws := fun _ => ws) (fun _ => hz) (fun _ I => cells_later hC rfl I) (hr.mono (by decide)) (pa_cons (pv 0) (pa_cons (pv 1) (pa_cons (pv 2) (pa_cons (pv 3) (pa_cons (pv 4) pa_nil))))))))
        (pss_one (ps_set (i := 6) sc_applied.nd rfl (.inl rfl) (pe_hL hL_walked_on (mk := fun _ => F) (ws := fun _ => ws) (fun _ => hz) (fun _ I => cells_later hC rfl I) (hr.mono (by decide)) (pa_cons (pv 0) (pa_cons (pv 1) (pa_cons (pv 2) (pa_cons (pv 3) (pa_cons (pv 4) pa_nil)))))))))
      (pss_cons (ps_if (pt_cmpR op_gt (pe_callB (clLen (K := K) rfl) (by rfl) T.z_len (by decide +kernel) (pa_cons (pv 6) pa_nil)) (pe_gv (by rfl) T.g_MOST_ITEMS) (nomark _))
        pss_never
        pss_nil)
      (pss_one (ps_ret (pv 6))))))), ?_⟩
    walk_at "fl.w"
    refine g_inT (b := false) hgs rfl rfl (by rw [hin]; rfl) ?_
    walk_at "fl.w"
    by_cases c : k.kind = "reverse"
    · have eb : apV fo k fs run = wbkV fo k fs run.length run := by unfold apV; rw [if_pos c]
      first | refine g_eqS (b := true) (decide_eq_true c) ?_ | refine g_yesB c ?_
      walk_at "fl.w"
      refine ⟨0, S, fo, l, k, run, fs, _, v3, pf, g, rfl, hS, h1, hW, h3, hfs, fok, ho3, hk, decide_eq_true c, hrun, h1000, hL, fun b H2 sm2 hb hv => ?_⟩
      have hv : Dq S H2 (.ref b) (ruD (wbkV fo k fs run.length run)) := hv
      rw [← eb] at hv
      obtain ⟨_, zs, ez, nb, hzs, hZ⟩ := id hv.lstE
      cases ez
      have hzl : zs.length = (apV fo k fs run).length := by rw [hZ.len, List.length_map]
      walk_at "fl.w"
      refine g_noB (by omega) ?_
      walk_at "fl.w"
      exact q b H2 sm2 hb hv
    · have eb : apV fo k fs run = wonV fo k fs run.length run 0 := by unfold apV; rw [if_neg c]
      first | refine g_eqS (b := false) (decide_eq_false c) ?_ | refine g_noB c ?_
      walk_at "fl.w"
      refine ⟨0, S, fo, l, k, run, fs, _, v3, pf, g, rfl, hS, h1, hW, h3, hfs, fok, ho3, hk, decide_eq_false c, hrun, h1000, hL, fun b H2 sm2 hb hv => ?_⟩
      have hv : Dq S H2 (.ref b) (ruD (wonV fo k fs run.length run 0)) := hv
      rw [← eb] at hv
      obtain ⟨_, zs, ez, nb, hzs, hZ⟩ := id hv.lstE
      cases ez
      have hzl : zs.length = (apV fo k fs run).length := by rw [hZ.len, List.length_map]
      walk_at "fl.w"
      refine g_noB (by omega) ?_
      walk_at "fl.w"
      exact q b H2 sm2 hb hv
end

section
/-! ### each rule twice -/
def twL {α : Type} (l : List α) : List α := l.flatMap fun r => [r, r]
def twK (k : LkV) : LkV := ⟨k.kind, twL k.rules, k.ign⟩
def twF (f : FoV) : FoV := ⟨f.glyphs, f.lks.map twK⟩
theorem twL_len {α : Type} : ∀ l : List α, (twL l).length = 2 * l.length
  | [] => rfl
  | a :: l => by
    show ([a, a] ++ twL l).length = _
    rw [List.length_append, twL_len l]
    simp
    omega
theorem twL_even {α : Type} : ∀ (l : List α) (i : Nat), (twL l)[2 * i]? = l[i]?
  | [], i => by simp [twL]
  | a :: l, 0 => rfl
  | a :: l, i + 1 => by
    show (a :: a :: twL l)[2 * (i + 1)]? = _
    rw [show 2 * (i + 1) = 2 * i + 1 + 1 by omega, List.getElem?_cons_succ, List.getElem?_cons_succ, List.getElem?_cons_succ]
    exact twL_even l i
theorem twL_odd {α : Type} : ∀ (l : List α) (i : Nat), (twL l)[2 * i + 1]? = l[i]?
  | [], i => by simp [twL]
  | a :: l, 0 => rfl
  | a :: l, i + 1 => by
    show (a :: a :: twL l)[2 * (i + 1) + 1]? = _
    rw [show 2 * (i + 1) + 1 = 2 * i + 1 + 1 + 1 by omega, List.getElem?_cons_succ, List.getElem?_cons_succ, List.getElem?_cons_succ]
    exact twL_odd l i
theorem find_tw {p q : Nat → Bool} (h0 : ∀ i, q (2 * i) = p i) (h1 : ∀ i, q (2 * i + 1) = p i) : ∀ n : Nat, (List.range (2 * n)).find? q = ((List.range n).find? p).map (2 * ·)
  | 0 => rfl
  | n + 1 => by
    rw [show 2 * (n + 1) = 2 * n + 1 + 1 by omega, List.range_succ, List.range_succ, List.range_succ (n := n), List.find?_append, List.find?_append, List.find?_append, find_tw h0 h1 n]
    cases (List.range n).find? p with
    | some i => rfl
    | none =>
      simp only [Option.none_or, Option.map_none]
      rw [List.find?_singleton, List.find?_singleton, List.find?_singleton, h0, h1]
      cases p n <;> rfl
theorem mt_tw (f : FoV) (k : LkV) (run : List ItV) (a : Nat) (fs : List Int) : mtV (twF f) (twK k) run a fs = (mtV f k run a fs).map (2 * ·) := by
  unfold mtV
  split
  · rfl
  · show (List.range (twL k.rules).length).find? _ = _
    rw [twL_len]
    refine find_tw (fun i => ?_) (fun i => ?_) _
    · show (match (twL k.rules)[2 * i]? with | none => false | some r => (matV (twF f) (twK k) r run a).isSome) = _
      rw [twL_even]
      rfl
    · show (match (twL k.rules)[2 * i + 1]? with | none => false | some r => (matV (twF f) (twK k) r run a).isSome) = _
      rw [twL_odd]
      rfl
theorem cat_tw (f : FoV) (k : LkV) (it : ItV) : catV (twF f) (twK k) it = catV f k it := by
  unfold catV
  rw [mt_tw]
  cases mtV f k [it] 0 [] with
  | none => rfl
  | some i =>
    show (match (twL k.rules)[2 * i]? with | none => [it] | some r => repV (twF f) k.kind r it) = _
    rw [twL_even]
    rfl
theorem cal_tw (f : FoV) (r : RuV) (run : List ItV) (L : List Nat) : calV (twF f) r run L = calV f r run L := by
  unfold calV
  congr 1
  funext c made
  unfold calV1
  show (match (f.lks.map twK)[c.2.toNat]?, made[atN L c.1 - hdN L]? with | some k, some it => splV made (catV (twF f) k it) (atN L c.1 - hdN L) | _, _ => made) = _
  rw [List.getElem?_map]
  cases f.lks[c.2.toNat]? with
  | none => rfl
  | some k =>
    cases made[atN L c.1 - hdN L]? with
    | none => rfl
    | some it =>
      show splV made (catV (twF f) (twK k) it) _ = _
      rw [cat_tw]
theorem bec_tw (f : FoV) (k : LkV) (r : RuV) (run : List ItV) (L : List Nat) : becV (twF f) (twK k) r run L = becV f k r run L := by
  unfold becV
  rw [cal_tw]
  rfl
theorem won_tw (f : FoV) (k : LkV) (fs : List Int) : ∀ (n : Nat) (run : List ItV) (a : Nat), wonV (twF f) (twK k) fs n run a = wonV f k fs n run a
  | 0, _, _ => rfl
  | n + 1, run, a => by
    rw [won_s, won_s, mt_tw]
    split
    · cases mtV f k run a fs with
      | none => exact won_tw f k fs n run (a + 1)
      | some i =>
        show (match (twL k.rules)[2 * i]? with | none => run | some r => wonV (twF f) (twK k) fs n (run.take a ++ becV (twF f) (twK k) r run (tkV f k r run a) ++ run.drop (lsN (tkV f k r run a) + 1)) (a + (becV (twF f) (twK k) r run (tkV f k r run a)).length)) = (match k.rules[i]? with | none => run | some r => wonV f k fs n (run.take a ++ becV f k r run (tkV f k r run a) ++ run.drop (lsN (tkV f k r run a) + 1)) (a + (becV f k r run (tkV f k r run a)).length))
        rw [twL_even]
        cases k.rules[i]? with
        | none => rfl
        | some r =>
          show wonV (twF f) (twK k) fs n _ _ = wonV f k fs n _ _
          rw [bec_tw, won_tw f k fs n]
    · rfl
theorem wbk_tw (f : FoV) (k : LkV) (fs : List Int) : ∀ (n : Nat) (run : List ItV), wbkV (twF f) (twK k) fs n run = wbkV f k fs n run
  | 0, _ => rfl
  | n + 1, run => by
    show wbkV (twF f) (twK k) fs n (wbk1 (twF f) (twK k) fs run n) = wbkV f k fs n (wbk1 f k fs run n)
    rw [wbk_tw f k fs n]
    congr 1
    unfold wbk1
    rw [mt_tw]
    cases mtV f k run n fs with
    | none => rfl
    | some i =>
      show (match (twL k.rules)[2 * i]?, run[n]? with | some r, some it => run.set n (swpV (twF f) r it) | _, _ => run) = _
      rw [twL_even]
      rfl
theorem ap_tw (f : FoV) (k : LkV) (fs : List Int) (run : List ItV) : apV (twF f) (twK k) fs run = apV f k fs run := by
  unfold apV
  rw [wbk_tw, won_tw]
  rfl
/-! ### nothing matches -/
theorem won_id {f : FoV} {k : LkV} {fs : List Int} {run : List ItV} (h : ∀ a, a < run.length → mtV f k run a fs = none) : ∀ (n a : Nat), wonV f k fs n run a = run
  | 0, _ => rfl
  | n + 1, a => by
    rw [won_s]
    split
    · rename_i c
      rw [h a c]
      exact won_id h n (a + 1)
    · rfl
theorem wbk_id {f : FoV} {k : LkV} {fs : List Int} {run : List ItV} (h : ∀ a, a < run.length → mtV f k run a fs = none) : ∀ n, n ≤ run.length → wbkV f k fs n run = run
  | 0, _ => rfl
  | n + 1, hn => by
    show wbkV f k fs n (wbk1 f k fs run n) = run
    have : wbk1 f k fs run n = run := by
      unfold wbk1
      rw [h n (by omega)]
    rw [this]
    exact wbk_id h n (by omega)
theorem ap_id {f : FoV} {k : LkV} {fs : List Int} {run : List ItV} (h : ∀ a, a < run.length → mtV f k run a fs = none) : apV f k fs run = run := by
  unfold apV
  split
  · exact wbk_id h _ (Nat.le_refl _)
  · exact won_id h _ _
theorem mt_bare {f : FoV} {k : LkV} {run : List ItV} {a : Nat} {fs : List Int} (h : k.rules = []) : mtV f k run a fs = none := by
  unfold mtV
  rw [h]
  split <;> rfl
/-! ### lengths -/
theorem won_keep {f : FoV} {k : LkV} {fs : List Int} (fok : f.Ok) (hk : k ∈ f.lks) (hs : k.kind = "single") : ∀ (n : Nat) (run : List ItV) (a : Nat), a ≤ run.length → (wonV f k fs n run a).length = run.length
  | 0, _, _, _ => rfl
  | n + 1, run, a, ha => by
    rw [won_s]
    split
    · rename_i c
      cases hm : mtV f k run a fs with
      | none => exact won_keep fok hk hs n run (a + 1) c
      | some i =>
        obtain ⟨r, L, hri, hmat⟩ := mt_some hm
        have rok := ro_of fok hk hri
        have tk := tk_ok c rok.i3.1 hmat
        have be : BeOk f k r run a L := ⟨tk, rok⟩
        show (match k.rules[i]? with
          | none => run
          | some r => wonV f k fs n (run.take a ++ becV f k r run (tkV f k r run a) ++ run.drop (lsN (tkV f k r run a) + 1)) (a + (becV f k r run (tkV f k r run a)).length)).length = _
        rw [hri]
        show (wonV f k fs n (run.take a ++ becV f k r run (tkV f k r run a) ++ run.drop (lsN (tkV f k r run a) + 1)) (a + (becV f k r run (tkV f k r run a)).length)).length = _
        rw [← tk.e]
        have l1 := rok.i (.inl hs)
        have l2 := tk.len
        obtain ⟨t, ht⟩ := tk.hd
        have e1 : L = [a] := by
          cases t with
          | nil => exact ht
          | cons x t => rw [ht] at l2; simp at l2; omega
        have e2 : lsN L = a := by rw [e1]; rfl
        have e3 : hdN L = a := tk.hdE
        obtain ⟨it, hit⟩ : ∃ it, run[a]? = some it := ⟨_, List.getElem?_eq_getElem c⟩
        have e4 : (becV f k r run L).length = 1 := by
          unfold becV
          rw [if_neg (by rw [hs]; decide +kernel), if_neg (by rw [hs]; decide +kernel), e3, hit]
          show (repV f k.kind r it).length = 1
          unfold repV
          rw [if_pos hs]
          rfl
        have hnl : (run.take a ++ becV f k r run L ++ run.drop (lsN L + 1)).length = run.length := by
          rw [List.length_append, List.length_append, List.length_take, List.length_drop, e4, e2]
          omega
        rw [won_keep fok hk hs n _ _ (by rw [hnl]; omega), hnl]
    · rfl
theorem won_less {f : FoV} {k : LkV} {fs : List Int} (fok : f.Ok) (hk : k ∈ f.lks) (hs : k.kind = "ligature") : ∀ (n : Nat) (run : List ItV) (a : Nat), a ≤ run.length → (wonV f k fs n run a).length ≤ run.length
  | 0, _, _, _ => Nat.le_refl _
  | n + 1, run, a, ha => by
    rw [won_s]
    split
    · rename_i c
      cases hm : mtV f k run a fs with
      | none => exact won_less fok hk hs n run (a + 1) c
      | some i =>
        obtain ⟨r, L, hri, hmat⟩ := mt_some hm
        have rok := ro_of fok hk hri
        have tk := tk_ok c rok.i3.1 hmat
        have be : BeOk f k r run a L := ⟨tk, rok⟩
        show (match k.rules[i]? with
          | none => run
          | some r => wonV f k fs n (run.take a ++ becV f k r run (tkV f k r run a) ++ run.drop (lsN (tkV f k r run a) + 1)) (a + (becV f k r run (tkV f k r run a)).length)).length ≤ _
        rw [hri]
        show (wonV f k fs n (run.take a ++ becV f k r run (tkV f k r run a) ++ run.drop (lsN (tkV f k r run a) + 1)) (a + (becV f k r run (tkV f k r run a)).length)).length ≤ _
        rw [← tk.e]
        have e3 : hdN L = a := tk.hdE
        have pl := be.pl
        have l1 := pl.lt _ (ls_mem pl.ne)
        have l2 := pl.le
        have e4 : (becV f k r run L).length ≤ lsN L - hdN L + 1 := by
          have := pass_len (run := run) pl.ne
          unfold becV
          rw [if_pos hs]
          unfold joiV
          rw [List.length_cons, List.length_map]
          exact this
        have hnl : (run.take a ++ becV f k r run L ++ run.drop (lsN L + 1)).length = a + (becV f k r run L).length + (run.length - (lsN L + 1)) := by
          rw [List.length_append, List.length_append, List.length_take, List.length_drop]
          omega
        have := won_less (fs := fs) fok hk hs n (run.take a ++ becV f k r run L ++ run.drop (lsN L + 1)) (a + (becV f k r run L).length) (by rw [hnl]; omega)
        rw [hnl] at this
        omega
    · exact Nat.le_refl _
/-! ### the glyphs that are put -/
def putC (f : FoV) (c : Int × Int) : List Int := match f.lks[c.2.toNat]? with
  | none => []
  | some k => k.rules.flatMap RuV.out
def putR (f : FoV) (r : RuV) : List Int := r.out ++ r.calls.flatMap (putC f)
def putsV (f : FoV) (k : LkV) : List Int := k.rules.flatMap (putR f)
theorem rep_in {f : FoV} {kind : Str} {r : RuV} {it : ItV} (h : RpOk f kind r it.g) : ∀ x, x ∈ repV f kind r it → (x.g : Int) ∈ r.out := fun x m => by
  unfold repV at m
  split at m
  · rename_i e
    rw [show x = swpV f r it by simpa using m]
    obtain ⟨_, j, _, _, _, z, _⟩ := (h.s e).get
    exact List.mem_of_getElem? z
  · obtain ⟨g, mg', rfl⟩ := List.mem_map.mp m
    have := h.o g mg'
    show ((g.toNat : Nat) : Int) ∈ _
    rw [show ((g.toNat : Nat) : Int) = g by omega]
    exact mg'
theorem cat_in {f : FoV} {l : Nat} {k : LkV} {it : ItV} (fok : f.Ok) (hk : f.lks[l]? = some k) : ∀ x, x ∈ catV f k it → x.g = it.g ∨ (x.g : Int) ∈ k.rules.flatMap RuV.out := fun x m => by
  unfold catV at m
  cases hm : mtV f k [it] 0 [] with
  | none => rw [hm] at m; exact .inl (by rw [show x = it by simpa using m])
  | some i =>
    rw [hm] at m
    obtain ⟨r, L, hri, hmat⟩ := mt_some hm
    have m : x ∈ (match k.rules[i]? with | none => [it] | some r => repV f k.kind r it) := m
    rw [hri] at m
    have rok := ro_of fok (List.mem_of_getElem? hk) hri
    exact .inr (List.mem_flatMap.mpr ⟨r, List.mem_of_getElem? hri, rep_in ((tk_ok (by simp) rok.i3.1 hmat).rp rok rfl) x m⟩)
theorem cal_in {f : FoV} {L : List Nat} {mid : List ItV} {G : Int → Prop} (fok : f.Ok) (hm : ∀ x, x ∈ mid → G x.g) : ∀ cs : List (Int × Int), (∀ c, c ∈ cs → ∀ g, g ∈ putC f c → G g) → ∀ x, x ∈ cs.foldr (calV1 f L) mid → G x.g
  | [], _, x, m => hm x m
  | c :: cs, h, x, m => by
    have ih := cal_in (L := L) fok hm cs fun d md => h d (List.mem_cons_of_mem _ md)
    rw [List.foldr_cons] at m
    generalize cs.foldr (calV1 f L) mid = acc at ih m
    rcases calV1_or f L c acc with ⟨k, it, hk, hit, e⟩ | e
    · rw [e] at m
      unfold splV at m
      rcases List.mem_append.mp m with m | m
      · rcases List.mem_append.mp m with m | m
        · exact ih x (List.mem_of_mem_take m)
        · rcases cat_in fok hk x m with z | z
          · rw [z]
            exact ih it (List.mem_of_getElem? hit)
          · exact h c List.mem_cons_self _ (by unfold putC; rw [hk]; exact z)
      · exact ih x (List.mem_of_mem_drop m)
    · rw [e] at m
      exact ih x m
theorem bec_in {f : FoV} {k : LkV} {r : RuV} {run : List ItV} {a : Nat} {L : List Nat} {G : Int → Prop} (fok : f.Ok) (h : BeOk f k r run a L) (ha : a < run.length) (hg : ∀ x, x ∈ run → G x.g) (hr : ∀ g, g ∈ putR f r → G g) : ∀ x, x ∈ becV f k r run L → G x.g := fun x m => by
  unfold becV at m
  split at m
  · rename_i c1
    unfold joiV at m
    rcases List.mem_cons.mp m with rfl | m
    · obtain ⟨g0, hg0⟩ : ∃ g0, r.out[0]? = some g0 := ⟨_, List.getElem?_eq_getElem (by have := h.ok.ol c1; omega)⟩
      have := h.ok.og g0 (List.mem_of_getElem? hg0)
      show G (((((r.out[0]?).getD 0).toNat) : Nat) : Int)
      rw [hg0]
      show G ((g0.toNat : Nat) : Int)
      rw [show ((g0.toNat : Nat) : Int) = g0 by omega]
      exact hr g0 (List.mem_append_left _ (List.mem_of_getElem? hg0))
    · obtain ⟨y, my, rfl⟩ := List.mem_map.mp m
      unfold passV at my
      obtain ⟨i, _, e⟩ := List.mem_filterMap.mp my
      split at e
      · cases e
      · exact hg y (List.mem_of_getElem? e)
  · split at m
    · exact cal_in fok (fun y my => hg y (List.mem_of_mem_drop (List.mem_of_mem_take my))) r.calls (fun c mc g mg' => hr g (List.mem_append_right _ (List.mem_flatMap.mpr ⟨c, mc, mg'⟩))) x m
    · split at m
      · cases m
      · rename_i it hit
        rw [h.tk.hdE] at hit
        exact hr _ (List.mem_append_left _ (rep_in (h.tk.rp h.ok hit) x m))
theorem won_in {f : FoV} {k : LkV} {fs : List Int} {G : Int → Prop} (fok : f.Ok) (hk : k ∈ f.lks) (hp : ∀ g, g ∈ putsV f k → G g) : ∀ (n : Nat) (run : List ItV) (a : Nat), (∀ x, x ∈ run → G x.g) → ∀ x, x ∈ wonV f k fs n run a → G x.g
  | 0, _, _, h, x, m => h x m
  | n + 1, run, a, h, x, m => by
    rw [won_s] at m
    split at m
    · rename_i c
      cases hm : mtV f k run a fs with
      | none => rw [hm] at m; exact won_in fok hk hp n run (a + 1) h x m
      | some i =>
        rw [hm] at m
        obtain ⟨r, L, hri, hmat⟩ := mt_some hm
        have rok := ro_of fok hk hri
        have tk := tk_ok c rok.i3.1 hmat
        have be : BeOk f k r run a L := ⟨tk, rok⟩
        have m : x ∈ (match k.rules[i]? with
          | none => run
          | some r => wonV f k fs n (run.take a ++ becV f k r run (tkV f k r run a) ++ run.drop (lsN (tkV f k r run a) + 1)) (a + (becV f k r run (tkV f k r run a)).length)) := m
        rw [hri] at m
        have m : x ∈ wonV f k fs n (run.take a ++ becV f k r run (tkV f k r run a) ++ run.drop (lsN (tkV f k r run a) + 1)) (a + (becV f k r run (tkV f k r run a)).length) := m
        rw [← tk.e] at m
        refine won_in fok hk hp n _ _ (fun y my => ?_) x m
        rcases List.mem_append.mp my with my | my
        · rcases List.mem_append.mp my with my | my
          · exact h y (List.mem_of_mem_take my)
          · exact bec_in fok be c h (fun g mg' => hp g (List.mem_flatMap.mpr ⟨r, List.mem_of_getElem? hri, mg'⟩)) y my
        · exact h y (List.mem_of_mem_drop my)
    · exact h x m
theorem wbk_in {f : FoV} {k : LkV} {fs : List Int} {G : Int → Prop} (fok : f.Ok) (hk : k ∈ f.lks) (hr : k.kind = "reverse") (hp : ∀ g, g ∈ putsV f k → G g) : ∀ (n : Nat) (run : List ItV), (∀ x, x ∈ run → G x.g) → ∀ x, x ∈ wbkV f k fs n run → G x.g
  | 0, _, h, x, m => h x m
  | n + 1, run, h, x, m => by
    refine wbk_in fok hk hr hp n (wbk1 f k fs run n) (fun y my => ?_) x m
    unfold wbk1 at my
    cases hm : mtV f k run n fs with
    | none => rw [hm] at my; exact h y my
    | some i =>
      rw [hm] at my
      obtain ⟨r, L, hri, hmat⟩ := mt_some hm
      have my : y ∈ (match k.rules[i]?, run[n]? with | some r, some it => run.set n (swpV f r it) | _, _ => run) := my
      rw [hri] at my
      cases hit : run[n]? with
      | none => rw [hit] at my; exact h y my
      | some it =>
        rw [hit] at my
        have hn := (List.getElem?_eq_some_iff.mp hit).1
        have rok := ro_of fok hk hri
        have tk := tk_ok hn rok.i3.1 hmat
        rcases List.mem_or_eq_of_mem_set my with my | rfl
        · exact h y my
        · obtain ⟨_, j, _, _, _, z, _⟩ := (tk.sw rok (.inr hr) hit).get
          exact hp _ (List.mem_flatMap.mpr ⟨r, List.mem_of_getElem? hri, List.mem_append_left _ (List.mem_of_getElem? z)⟩)
theorem ap_in {f : FoV} {k : LkV} {fs : List Int} {run : List ItV} (fok : f.Ok) (hk : k ∈ f.lks) : ∀ x, x ∈ apV f k fs run → (x.g : Int) ∈ (run.map fun it => (it.g : Int)) ++ putsV f k := fun x m => by
  have h1 : ∀ y, y ∈ run → (y.g : Int) ∈ (run.map fun it => (it.g : Int)) ++ putsV f k := fun y my => List.mem_append_left _ (List.mem_map.mpr ⟨y, my, rfl⟩)
  have h2 : ∀ g, g ∈ putsV f k → g ∈ (run.map fun it => (it.g : Int)) ++ putsV f k := fun g mg' => List.mem_append_right _ mg'
  unfold apV at m
  split at m
  · rename_i hr
    exact wbk_in (G := fun g => g ∈ (run.map fun it => (it.g : Int)) ++ putsV f k) fok hk hr h2 _ _ h1 x m
  · exact won_in (G := fun g => g ∈ (run.map fun it => (it.g : Int)) ++ putsV f k) fok hk h2 _ _ _ h1 x m
/-! ### the fonts are correct -/
theorem tw_ok {f : FoV} (h : f.Ok) (h3 : ∀ k, k ∈ f.lks → k.rules.length ≤ 3) : (twF f).Ok := by
  have ek : (f.lks.map twK).map LkV.kind = f.lks.map LkV.kind := by rw [List.map_map]; rfl
  refine ⟨h.g, h.ga, by show (f.lks.map twK).length ≤ 20; rw [List.length_map]; exact h.l, fun k m => ?_⟩
  obtain ⟨k0, m0, rfl⟩ := List.mem_map.mp m
  show (twK k0).Ok f.glyphs.length ((f.lks.map twK).map LkV.kind)
  rw [ek]
  have := h.lo k0 m0
  refine ⟨this.k, by show (twL k0.rules).length ≤ 12; rw [twL_len]; have := h3 k0 m0; omega, fun r mr => this.ro r ?_⟩
  obtain ⟨r0, mr0, e⟩ := List.mem_flatMap.mp mr
  rw [show r = r0 by simpa using e]
  exact mr0
theorem tw_out {f : FoV} (h : ∀ k, k ∈ f.lks → Out3 k) : ∀ k, k ∈ (twF f).lks → Out3 k := fun k m hm r mr => by
  obtain ⟨k0, m0, rfl⟩ := List.mem_map.mp m
  obtain ⟨r0, mr0, e⟩ := List.mem_flatMap.mp mr
  rw [show r = r0 by simpa using e]
  exact h k0 m0 hm r0 mr0
/-- the l-th lookup without rules -/
def baK (k : LkV) : LkV := ⟨k.kind, [], k.ign⟩
def baF (f : FoV) (l : Nat) (k : LkV) : FoV := ⟨f.glyphs, f.lks.take l ++ [baK k] ++ f.lks.drop (l + 1)⟩
theorem ba_kinds {f : FoV} {l : Nat} {k : LkV} (hk : f.lks[l]? = some k) : (baF f l k).lks.map LkV.kind = f.lks.map LkV.kind := by
  have hl := (List.getElem?_eq_some_iff.mp hk).1
  have e : f.lks = f.lks.take l ++ [k] ++ f.lks.drop (l + 1) := by
    rw [List.append_assoc]
    conv => lhs; rw [← List.take_append_drop l f.lks]
    congr 1
    rw [List.drop_eq_getElem_cons hl, (List.getElem?_eq_some_iff.mp hk).2]
    rfl
  conv => rhs; rw [e]
  unfold baF
  simp only [List.map_append, List.map_cons, List.map_nil]
  rfl
theorem ba_mem {f : FoV} {l : Nat} {k x : LkV} (m : x ∈ (baF f l k).lks) : x ∈ f.lks ∨ x = baK k := by
  unfold baF at m
  rcases List.mem_append.mp m with m | m
  · rcases List.mem_append.mp m with m | m
    · exact .inl (List.mem_of_mem_take m)
    · exact .inr (by simpa using m)
  · exact .inl (List.mem_of_mem_drop m)
theorem ba_at {f : FoV} {l : Nat} {k : LkV} (hk : f.lks[l]? = some k) : (baF f l k).lks[l]? = some (baK k) := by
  have hl := (List.getElem?_eq_some_iff.mp hk).1
  unfold baF
  show (f.lks.take l ++ [baK k] ++ f.lks.drop (l + 1))[l]? = _
  rw [List.append_assoc, List.getElem?_append_right (by rw [List.length_take]; omega), List.length_take, Nat.min_eq_left (by omega), Nat.sub_self]
  rfl
theorem ba_ok {f : FoV} {l : Nat} {k : LkV} (h : f.Ok) (hk : f.lks[l]? = some k) : (baF f l k).Ok := by
  have hl := (List.getElem?_eq_some_iff.mp hk).1
  refine ⟨h.g, h.ga, ?_, fun x m => ?_⟩
  · show (f.lks.take l ++ [baK k] ++ f.lks.drop (l + 1)).length ≤ 20
    have := h.l
    rw [List.length_append, List.length_append, List.length_take, List.length_drop]
    simp only [List.length_cons, List.length_nil]
    omega
  · rw [ba_kinds hk]
    rcases ba_mem m with m | rfl
    · exact h.lo x m
    · exact ⟨(h.lo k (List.mem_of_getElem? hk)).k, Nat.zero_le _, fun r mr => nomatch mr⟩
theorem ba_out {f : FoV} {l : Nat} {k : LkV} (h : ∀ k, k ∈ f.lks → Out3 k) : ∀ x, x ∈ (baF f l k).lks → Out3 x := fun x m => by
  rcases ba_mem m with m | rfl
  · exact h x m
  · exact fun _ r mr => nomatch mr
end

section
variable {P : Program} {w : World} {K : PySem.W.Frag} {mg : Str → Option Value} {base : Heap}
theorem g_breakS {D : Ends} {σ : L2.St} {H : Hp} (q : D.bk σ H) : tBreak D σ H := q
local macro_rules | `(tactic| walk_at "fl.t") => `(tactic| ((with_reducible apply g_appB); (focus walk_at "fl.raw"); (focus first | assumption | walk_at "fl.cz")))
local macro_rules | `(tactic| walk_at "fl.t") => `(tactic| (with_reducible refine g_bm0 ?_))
local macro_rules | `(tactic| walk_at "fl.t") => `(tactic| (with_reducible refine g_breakS ?_))
local macro_rules | `(tactic| walk_at "fl.w") => `(tactic| repeat walk_at "fl.t")
def spMix : Sp := fun vs H Q _ => ∃ n k : Int, vs = [.int n, .int k] ∧ ∀ v : Int, Q (.int v) H
theorem ok_law_mix (T : Txt K mg) : Has P w K mg base 1 "_law_mix" ps_law_mix spMix := by
  refine has_of T.d_law_mix sc_law_mix bd_law_mix (fun vs H Q E h => ?_) (fun f cdv A outer s H vs Q E hr h => ?_)
  · obtain ⟨n, k, rfl, _⟩ := h
    rfl
  · obtain ⟨n, k, rfl, q⟩ := h
    refine ⟨_, (pss_one (ps_ret (pe_op op_mod (pe_op op_mul (pe_op op_mod (pe_callTy call_int' (by rfl) T.z_int (by decide +kernel) (pa_cons (pe_op op_mul (pe_op op_add (pe_op op_add (pe_op op_mod (pe_callTy call_int' (by rfl) T.z_int (by decide +kernel) (pa_cons (pv 0) pa_nil)) pe_int) (pe_op op_mul pe_int (pv 1))) pe_int) pe_int) pa_nil)) pe_int) pe_int) pe_int))), ?_⟩
    walk_at "fl.w"
    exact q _
theorem mix_app {n k : Int} {H : Hp} {Q : VK} {E : XK} (q : ∀ v : Int, Q (.int v) H) : spMix [.int n, .int k] H Q E := ⟨n, k, rfl, q⟩
theorem ok_law_take (T : Txt K mg) : Has P w K mg base 1 "_law_take" ps_law_take spTk := by
  refine has_of T.d_law_take sc_law_take bd_law_take (fun vs H Q E h => ?_) (fun f cdv A outer s H vs Q E hr h => ?_)
  · obtain ⟨d, m, rfl, _⟩ := h
    rfl
  · obtain ⟨d, m, rfl, ⟨zs, hz, hl⟩, hm, q⟩ := h
    refine ⟨_, (pss_cons (ps_if (pt_not (ptTru (K := K) rfl (pv 0) (by intro _; rfl)))
        (pss_one (ps_ret pe_int))
        pss_nil)
      (pss_one (ps_ret (pe_op op_mod (pe_callTy call_int' (by rfl) T.z_int (by decide +kernel) (pa_cons (pe_bm0 PySem.F.plainAttrs_list PySem.F.slot_list_pop PySem.F.type_list_pop mt_pop (pv 0)) pa_nil)) (pv 1))))), ?_⟩
    walk_at "fl.w"
    rcases List.eq_nil_or_concat zs with rfl | ⟨ys, y, rfl⟩
    · refine ⟨false, .inl ⟨_, SqL.of hz, rfl⟩, ?_⟩
      walk_at "fl.w"
      exact q 0 H (Int.le_refl 0) hm ⟨[], hz, hl⟩ On.refl
    · rw [List.concat_eq_append] at hz hl
      refine ⟨true, .inl ⟨_, SqL.of hz, by simp⟩, ?_⟩
      have e : (((ys ++ [y]).map V.int))[((ys ++ [y]).map V.int).length - 1]? = some (.int y) := by simp
      walk_at "fl.w"
      refine g_pop hz e ?_
      walk_at "fl.w"
      refine q _ _ (Int.emod_nonneg _ (by omega)) (Int.emod_lt_of_pos _ hm) ⟨(ys ++ [y]).dropLast, ?_, by rw [List.length_dropLast]; omega⟩ On.upd
      rw [upd_same, List.map_dropLast]
def spNum (K : PySem.W.Frag) : Sp := fun vs H Q _ => ∃ (a : Addr) (ns : List Int) (m : Nat), vs = [.ref a, .int (m : Int)] ∧ SqL K H a (ns.map V.int) ∧ ns.length ≤ 63 ∧ m ≤ 1000 ∧ ∀ d H', Same H H' → H d = none → Dw d H' → Q (.ref d) H'
theorem ok_law_numbers (T : Txt K mg) : Has P w K mg base 2 "_law_numbers" ps_law_numbers (spNum K) := by
  have h_law_mix := ok_law_mix (P := P) (w := w) (base := base) T
  refine has_of T.d_law_numbers sc_law_numbers bd_law_numbers (fun vs H Q E h => ?_) (fun f cdv A outer s H vs Q E hr h => ?_)
  · obtain ⟨a, ns, m, rfl, _⟩ := h
    rfl
  · obtain ⟨a, ns, m, rfl, hS, hl, hm, q⟩ := h
    refine ⟨_, (pss_cons (ps_set (i := 2) sc_law_numbers.nd rfl (.inl rfl) (pe_lst pa_nil))
      (pss_cons (ps_set (i := 3) sc_law_numbers.nd rfl (.inl rfl) pe_int)
      (pss_cons (ps_for PassesOwn.never rfl (piL (K := K) rfl (pe_slice (slL' (K := K) rfl) (pv 0) po_none (po_some pe_int))) (pg_name (i := 4) sc_law_numbers.nd rfl (.inl rfl))
        (pss_cons (ps_set (i := 3) sc_law_numbers.nd rfl (.inl rfl) (pe_op op_add (pv 3) (pv 4)))
      (pss_one (ps_if (pt_cmpR op_ge (pv 4) pe_int (nomark _))
        (pss_cons (ps_set (i := 5) sc_law_numbers.nd rfl (.inl rfl) (pv 4))
      (pss_one (ps_for PassesOwn.never rfl (pi_range1 (by rfl) T.z_range (pa_cons pe_int pa_nil)) (pg_name (i := 6) sc_law_numbers.nd rfl (.inl rfl))
        (pss_cons (ps_expr (pe_bm PySem.F.plainAttrs_list PySem.F.slot_list_append PySem.F.type_list_append mt_append (pv 2) (pa_cons (pe_op op_mod (pe_callTy call_int' (by rfl) T.z_int (by decide +kernel) (pa_cons (pv 5) pa_nil)) pe_int) pa_nil)))
      (pss_cons (ps_set (i := 5) sc_law_numbers.nd rfl (.inl rfl) (pe_op op_fdivW (pv 5) pe_int))
      (pss_one (ps_if (pt_cmpR op_eq (pv 5) pe_int (nomark _))
        (pss_one ps_break)
        pss_nil)))))))
        (pss_one (ps_expr (pe_bm PySem.F.plainAttrs_list PySem.F.slot_list_append PySem.F.type_list_append mt_append (pv 2) (pa_cons (pe_h h_law_mix (hr.mono (by decide)) (pa_cons (pe_h h_law_mix (hr.mono (by decide)) (pa_cons (pv 4) (pa_cons pe_int pa_nil))) (pa_cons pe_int pa_nil))) pa_nil))))))))
      (pss_cons (ps_for PassesOwn.never rfl (pi_range1 (by rfl) T.z_range (pa_cons (pv 1) pa_nil)) (pg_name (i := 6) sc_law_numbers.nd rfl (.inl rfl))
        (pss_one (ps_expr (pe_bm PySem.F.plainAttrs_list PySem.F.slot_list_append PySem.F.type_list_append mt_append (pv 2) (pa_cons (pe_h h_law_mix (hr.mono (by decide)) (pa_cons (pe_h h_law_mix (hr.mono (by decide)) (pa_cons (pe_op op_add (pv 3) (pe_op op_mul pe_int (pv 6))) (pa_cons (pe_op op_add pe_int (pv 6)) pa_nil))) (pa_cons pe_int pa_nil))) pa_nil)))))
      (pss_cons (ps_expr (pe_bm0 PySem.F.plainAttrs_list PySem.F.slot_list_reverse PySem.F.type_list_reverse mt_reverse (pv 2)))
      (pss_one (ps_ret (pv 2)))))))), ?_⟩
    walk_at "fl.w"
    rename_i D hD
    have hS1 := Same.seq (Fl.Same.new hD (o := .lst [])) hS
    refine g_slTo (k := 63) hS1 (fun p hp => ?_)
    rw [List.take_of_length_le (by rw [List.length_map]; exact hl)]
    have npD : p ≠ D := fun e => by rw [e, upd_same] at hp; cases hp
    have hpH : H p = none := Same.free (Fl.Same.new hD) hp
    refine ⟨p, rfl, ⟨_, SqL.of upd_same⟩, ?_⟩
    refine forK_l (xs := ns.map V.int) (fun i σ' H' => (∃ u3 u4 u5 u6, σ' = [some (.ref a), some (.int (m : Int)), some (.ref D), some (.int u3), u4, u5, u6]) ∧ (∃ zs : List Int, H' D = some (.lst (zs.map V.int)) ∧ zs.length ≤ 60 * i) ∧ H' p = some (.lst (ns.map V.int)) ∧ Same H H') ⟨⟨_, _, _, _, rfl⟩, ⟨[], raw_new hp upd_same, Nat.le_refl _⟩, upd_same, (Fl.Same.new hD).trans (Fl.Same.new hp)⟩ ?_ ?_ ?_
    · intro i σ' H' _ ⟨_, _, rp, _⟩
      exact SqL.of rp
    · intro i x σ' H' hx ⟨⟨u3, u4, u5, u6, e⟩, ⟨zs, hz, hlz⟩, rp, sm⟩
      subst e
      rw [List.getElem?_map] at hx
      cases hn : ns[i]? with
      | none => rw [hn] at hx; cases hx
      | some n =>
        rw [hn] at hx
        cases hx
        have hi : i < ns.length := (List.getElem?_eq_some_iff.mp hn).1
        have hzl : (zs.map V.int).length < 100000 := by rw [List.length_map]; omega
        walk_at "fl.w"
        refine g_ite (fun _ => ?_) (fun _ => ?_)
        · walk_at "fl.w"
          refine forK_r (fun j σ' G' => (∃ u3 r u6, σ' = [some (.ref a), some (.int (m : Int)), some (.ref D), some (.int u3), some (.int n), some (.int r), u6]) ∧ (∃ ys : List Int, G' D = some (.lst (ys.map V.int)) ∧ ys.length ≤ zs.length + j) ∧ G' p = some (.lst (ns.map V.int)) ∧ Same H G') ⟨⟨_, _, _, rfl⟩, ⟨zs, hz, by omega⟩, rp, sm⟩ ?_ ?_
          · intro j σ' G' hj ⟨⟨u3, r, u6, e⟩, ⟨ys, hy, hly⟩, rp2, sm2⟩
            subst e
            have hj2 : j < 60 := hj
            have hyl : (ys.map V.int).length < 100000 := by rw [List.length_map]; omega
            walk_at "fl.w"
            have nx : ∀ y : Int, (∃ zs2 : List Int, upd G' D (.lst (ys.map V.int ++ [V.int y])) D = some (.lst (zs2.map V.int)) ∧ zs2.length ≤ zs.length + (j + 1)) ∧ upd G' D (.lst (ys.map V.int ++ [V.int y])) p = some (.lst (ns.map V.int)) ∧ Same H (upd G' D (.lst (ys.map V.int ++ [V.int y]))) := fun y =>
              ⟨⟨ys ++ [y], by rw [upd_same, Fl.ints_snoc], by rw [List.length_append]; simp; omega⟩, by rw [upd_ne npD]; exact rp2, Same.updN hD sm2⟩
            refine g_ite (fun _ => ?_) (fun _ => ?_)
            · walk_at "fl.w"
              obtain ⟨⟨zs2, e1, e2⟩, e3, e4⟩ := nx (r % 840)
              exact ⟨⟨_, _, _, _, rfl⟩, ⟨zs2, e1, by omega⟩, e3, e4⟩
            · walk_at "fl.w"
              obtain ⟨⟨zs2, e1, e2⟩, e3, e4⟩ := nx (r % 840)
              exact ⟨⟨_, _, _, rfl⟩, ⟨zs2, e1, e2⟩, e3, e4⟩
          · intro σ' G' ⟨⟨u3, r, u6, e⟩, ⟨ys, hy, hly⟩, rp2, sm2⟩
            subst e
            have hly : ys.length ≤ zs.length + 60 := hly
            exact ⟨⟨_, _, _, _, rfl⟩, ⟨ys, hy, by omega⟩, rp2, sm2⟩
        · walk_at "fl.w"
          refine mix_app (fun v => ?_)
          walk_at "fl.w"
          refine mix_app (fun v => ?_)
          walk_at "fl.w"
          exact ⟨⟨_, _, _, _, rfl⟩, ⟨zs ++ [v], by rw [upd_same, Fl.ints_snoc], by rw [List.length_append]; simp; omega⟩, by rw [upd_ne npD]; exact rp, Same.updN hD sm⟩
    · intro σ' H' ⟨⟨u3, u4, u5, u6, e⟩, ⟨zs, hz, hlz⟩, rp, sm⟩
      subst e
      rw [List.length_map] at hlz
      walk_at "fl.w"
      rw [show ((m : Nat) : Int).toNat = m by omega]
      refine forK_r (fun j σ' G' => (∃ u3 u4 u5 u6, σ' = [some (.ref a), some (.int (m : Int)), some (.ref D), some (.int u3), u4, u5, u6]) ∧ (∃ ys : List Int, G' D = some (.lst (ys.map V.int)) ∧ ys.length ≤ zs.length + j) ∧ Same H G') ⟨⟨_, _, _, _, rfl⟩, ⟨zs, hz, by omega⟩, sm⟩ ?_ ?_
      · intro j σ' G' hj ⟨⟨u3, u4, u5, u6, e⟩, ⟨ys, hy, hly⟩, sm2⟩
        subst e
        have hyl : (ys.map V.int).length < 100000 := by rw [List.length_map]; omega
        walk_at "fl.w"
        refine mix_app (fun v => ?_)
        walk_at "fl.w"
        refine mix_app (fun v => ?_)
        walk_at "fl.w"
        exact ⟨⟨_, _, _, _, rfl⟩, ⟨ys ++ [v], by rw [upd_same, Fl.ints_snoc], by rw [List.length_append]; simp; omega⟩, Same.updN hD sm2⟩
      · intro σ' G' ⟨⟨u3, u4, u5, u6, e⟩, ⟨ys, hy, hly⟩, sm2⟩
        subst e
        walk_at "fl.w"
        refine ⟨D, _, rfl, rfl, hy, ?_⟩
        walk_at "fl.w"
        exact q _ _ (Same.updN hD sm2) hD ⟨ys.reverse, by rw [upd_same, List.map_reverse], by rw [List.length_reverse]; omega⟩
section
variable {S X : List Addr} {H1 : Hp} {α : Type} {f : α → PyData}
/-- the list D at turn i of a comprehension whose steps change what stands at X and keep I; Pr: what is known of the items after i turns -/
structure GenF (f : α → PyData) (S X : List Addr) (I : Hp → Prop) (Pr : Nat → List α → Prop) (H1 : Hp) (D : Addr) (i : Nat) (H : Hp) : Prop where
  ex : ∃ (acc : List V) (rs : List α), H D = some (.lst acc) ∧ DqA (D :: S) H acc (rs.map f) ∧ rs.length ≤ i ∧ Pr i rs
  fr : Fl.Fr (D :: X) H1 H
  inv : I H
theorem GenF.al {I : Hp → Prop} {Pr : Nat → List α → Prop} {D : Addr} {i : Nat} {H : Hp} (h : GenF f S X I Pr H1 D i H) (hS : Al S H1) (hA : ∀ H, I H → Al X H) : Al (D :: S) H := by
  obtain ⟨⟨acc, rs, hacc, _⟩, hf, hi⟩ := h
  exact .cons (by rw [hacc]; simp) (hS.fr hf fun b m => by
    rcases List.mem_cons.mp m with rfl | m
    · rw [hacc]; simp
    · exact hA H hi b m)
theorem GenF.put {I : Hp → Prop} {Pr : Nat → List α → Prop} {D : Addr} {i : Nat} {H H' : Hp} {acc : List V} {rs : List α} {y : V} {r : α} (hX : ∀ b, b ∈ X → b ∈ S) (hDX : D ∉ X) (hP : I H' → I (upd H' D (.lst (acc ++ [y])))) (hacc : H D = some (.lst acc)) (hd : DqA (D :: S) H acc (rs.map f)) (hl : rs.length ≤ i) (hi : i < 1000) (hf : Fl.Fr (D :: X) H1 H)
    (f' : Fl.Fr X H H') (k : I H') (dq : Dq (D :: S) H' y (f r)) (pr : Pr (i + 1) (rs ++ [r])) : ∃ acc, H' D = some (.lst acc) ∧ acc.length < sizeLine ∧ GenF f S X I Pr H1 D (i + 1) (upd H' D (.lst (acc ++ [y]))) := by
  have hl2 := hd.len
  rw [List.length_map] at hl2
  refine ⟨acc, f' D _ hDX hacc, ?_, ⟨acc ++ [y], rs ++ [r], upd_same, ?_, ?_, pr⟩, ?_, hP k⟩
  · have : (1000 : Nat) ≤ sizeLine := by decide
    omega
  · rw [List.map_append]
    exact ((hd.fr (f'.mono fun b m => List.mem_cons_of_mem _ (hX b m))).app (.one dq)).fr (Fr.upd (by simp))
  · rw [List.length_append]
    simp
    omega
  · exact (hf.trans (f'.mono fun b m => List.mem_cons_of_mem _ m)).trans (Fr.upd (by simp))
theorem lcGf (f : α → PyData) {n : Nat} {lo : Int} {j : Nat} {tt : TT} {te : TE} {vs : List Nat} {σ : L2.St} {Q : VK} (X : List Addr) (I : Hp → Prop) (Pr : Nat → List α → Prop) (hS : Al S H1) (hX : ∀ b, b ∈ X → b ∈ S) (hI : I H1) (h0 : Pr 0 []) (hz : n < 1000)
    (hA : ∀ H, I H → Al X H) (hP : ∀ D H o, H1 D = none → I H → I (upd H D o))
    (step : ∀ (D : Addr) (i : Nat) (H : Hp) (rs : List α), H1 D = none → i < n → Al (D :: S) H → I H → Fl.Fr (D :: X) H1 H → Pr i rs →
      ∀ (R : V → Hp → Prop) (N : Hp → Prop), (∀ y H' r, Fl.Fr X H H' → I H' → Dq (D :: S) H' y (f r) → Pr (i + 1) (rs ++ [r]) → R y H') → (∀ H', Fl.Fr X H H' → I H' → Pr (i + 1) rs → N H') →
      wipe ((wipe σ vs).set j (some (.int (lo + i)))) vs = wipe σ vs ∧ tt ((wipe σ vs).set j (some (.int (lo + i)))) H fun b H3 => if b = true then te ((wipe σ vs).set j (some (.int (lo + i)))) H3 R else N H3)
    (q : ∀ (D : Addr) (H : Hp) (rs : List α), Fl.Fr X H1 H → I H → H1 D = none → Dq S H (.ref D) (.list (rs.map f)) → rs.length ≤ n → Pr n rs → Q (.ref D) H) :
    lcK (Itr lo n) (gName j) tt te vs σ H1 Q := by
  unfold lcK
  intro D hD
  have hDX : D ∉ X := fun m => hS D (hX D m) hD
  refine lc_range (GenF f S X I Pr H1 D) ⟨⟨[], [], upd_same, .nil, Nat.le_refl _, h0⟩, Fr.same (Fl.Same.new hD), hP D H1 _ hD hI⟩ ?_ ?_
  · intro i H hlt h
    have hAl := h.al hS hA
    obtain ⟨⟨acc, rs, hacc, hd, hl, hp⟩, hf, hi⟩ := h
    exact step D i H rs hD hlt hAl hi hf hp _ _ (fun y H' r f' k dq pr => GenF.put hX hDX (hP D H' _ hD) hacc hd hl (by omega) hf f' k dq pr)
      (fun H' f' k pr => ⟨⟨acc, rs, f' D _ hDX hacc, hd.fr (f'.mono fun b m => List.mem_cons_of_mem _ (hX b m)), by omega, pr⟩, hf.trans (f'.mono fun b m => List.mem_cons_of_mem _ m), k⟩)
  · intro H h
    obtain ⟨⟨acc, rs, hacc, hd, hl, hp⟩, hf, hi⟩ := h
    refine q D H rs (fun b o n e => hf b o (fun m => ?_) e) hi hD (.lst (hS.ni hD) hacc hd.tail) hl hp
    rcases List.mem_cons.mp m with rfl | m
    · rw [hD] at e; cases e
    · exact n m
end
theorem lex_snoc {n : Int} {c : List Int} (h : c.Pairwise (· < ·)) (hb : ∀ x, x ∈ c → x < n) : (c ++ [n]).Pairwise (· < ·) := by
  rw [List.pairwise_append]
  exact ⟨h, by simp, fun x hx y hy => by rw [show y = n by simpa using hy]; exact hb x hx⟩
end

section
variable {P : Program} {w : World} {K : PySem.W.Frag} {mg : Str → Option Value} {base : Heap}
local macro_rules | `(tactic| walk_at "fl.t") => `(tactic| ((with_reducible apply tk_app); (focus first | assumption | (with_reducible exact Dw.newH (by assumption) (by assumption))); (focus first | assumption | omega); intro _ _ _ _ _ _))
local macro_rules | `(tactic| walk_at "fl.w") => `(tactic| repeat walk_at "fl.t")
def intsD (c : List Int) : PyData := .list (c.map .int)
def UpTo (n : Int) (l : List Int) : Prop := ∀ (i : Nat) g, l[i]? = some g → prv l i < g ∧ g < n
theorem prv_app {l m : List Int} {i : Nat} (h : i ≤ l.length) : prv (l ++ m) i = prv l i := by
  cases i with
  | zero => rfl
  | succ i => simp [prv, List.getElem?_append_left (show i < l.length by omega)]
theorem upto_mono {n m : Int} {l : List Int} (h : UpTo n l) (k : n ≤ m) : UpTo m l := fun i g e => ⟨(h i g e).1, by have := (h i g e).2; omega⟩
theorem upto_snoc {n : Int} {l : List Int} (h : UpTo n l) (h0 : 0 ≤ n) : UpTo (n + 1) (l ++ [n]) := fun i g e => by
  by_cases hi : i < l.length
  · rw [List.getElem?_append_left hi] at e
    rw [prv_app (by omega)]
    have := h i g e
    exact ⟨this.1, by omega⟩
  · rw [List.getElem?_append_right (by omega)] at e
    have hi2 : i = l.length := by
      have := (List.getElem?_eq_some_iff.mp e).1
      simp at this
      omega
    subst hi2
    rw [Nat.sub_self] at e
    cases e
    rw [prv_app (Nat.le_refl _)]
    refine ⟨?_, by omega⟩
    cases hl : l.length with
    | zero => simp only [prv]; omega
    | succ m =>
      have hm : l[m]? = some (l[m]'(by omega)) := List.getElem?_eq_getElem (by omega)
      have := (h m _ hm).2
      simp [prv, hm]
      exact this
theorem upto_one {n g : Int} (h0 : 0 ≤ g) (h1 : g < n) : UpTo n [g] := fun i x e => by
  cases i with
  | zero => cases e; exact ⟨by simp only [prv]; omega, h1⟩
  | succ i => simp at e
theorem eqvL0 (l : List PyData) : PyData.eqv (.list l) (.list []) = l.isEmpty := by cases l <;> rfl
theorem sh_ints (c : List Int) : SeqAt.shaped (intsD c) = true := sh_list (n := 0) (fun d m => by
  obtain ⟨x, _, rfl⟩ := List.mem_map.mp m
  exact ⟨rfl, Nat.le_refl _⟩) (by decide)
def spSet : Sp := fun vs H Q _ => ∃ (S : List Addr) (d : Addr) (n : Nat), vs = [.ref d, .int (n : Int)] ∧ Al S H ∧ d ∈ S ∧ Dw d H ∧ 0 < n ∧ n ≤ 60 ∧ ∀ t H' c, Fl.Fr [d] H H' → Dw d H' → Dq S H' (.ref t) (intsD c) → IsSet n c → Q (.ref t) H'
theorem ok_law_set (T : Txt K mg) : Has P w K mg base 2 "_law_set" ps_law_set spSet := by
  have h_law_take := ok_law_take (P := P) (w := w) (base := base) T
  refine has_of T.d_law_set sc_law_set bd_law_set (fun vs H Q E h => ?_) (fun f cdv A outer s H vs Q E hr h => ?_)
  · obtain ⟨S, d, n, rfl, _⟩ := h
    rfl
  · obtain ⟨S, d, n, rfl, hS, hd, hk, hn, hn2, q⟩ := h
    refine ⟨_, (pss_cons (ps_setLc (i := 2) (own := [("k", 3)]) rfl sc_law_set.nd rfl rfl (sw_true rfl rfl rfl (by decide +kernel)) (pi_range1 (by rfl) T.z_range (pa_cons (pv 1) pa_nil)) (blkOk_by (by kernel_rfl)) (fun _ _ _ _ _ => (pg_name (i := 3) sc_law_set.nd rfl (.inl rfl))) (fun _ _ _ _ _ => (pts_one (pt_cmpR op_eq (pe_h h_law_take (hr.mono (by decide)) (pa_cons (pv 0) (pa_cons pe_int pa_nil))) pe_int (nomark _)))) (fun _ _ _ _ _ => (pv 3)))
      (pss_cons (ps_if (pt_cmpR (opEqD (K := K) rfl hr.units) (pv 2) (pe_lst pa_nil) (nomark _))
        (pss_one (ps_ret (pe_lst (pa_cons (pe_h h_law_take (hr.mono (by decide)) (pa_cons (pv 0) (pa_cons (pv 1) pa_nil))) pa_nil))))
        pss_nil)
      (pss_one (ps_ret (pv 2))))), ?_⟩
    walk_at "fl.w"
    rw [show ((n : Nat) : Int).toNat = n by omega]
    have one : ∀ b, b ∈ [d] → b ∈ S := fun b m => by rw [show b = d by simpa using m]; exact hd
    refine lcGf (S := S) PyData.int [d] (Dw d) (fun i rs => UpTo (i : Int) rs) hS one hk (fun i g e => by simp at e) (by omega) (fun H k => .cons k.hd .nil) (fun D H o e k => k.put (hk.ned e)) ?_ ?_
    · intro D i G rs hD hi hAl hkG _ hpr R N hR hN
      refine ⟨rfl, ?_⟩
      walk_at "fl.w"
      rename_i v G2 v0 v1 k2 o2
      refine g_ite (fun _ => ?_) (fun _ => ?_)
      · walk_at "fl.w"
        exact hR _ _ _ o2.fr k2 (.int _) (by rw [show (0 : Int) + (i : Int) = (i : Int) by omega, show ((i + 1 : Nat) : Int) = (i : Int) + 1 by omega]; exact upto_snoc hpr (by omega))
      · exact hN _ o2.fr k2 (upto_mono hpr (by omega))
    · intro D G rs fG kG hD dD hl hpr
      walk_at "fl.w"
      rename_i E0 hE0
      refine g_eqD (dD.newH hE0) (.lst (S := []) (ds := []) (by simp) upd_same .nil) (sh_ints rs) (sh_ln []) ?_
      rw [eqvL0]
      have alG : Al S G := hS.fr fG (.cons kG.hd .nil)
      cases rs with
      | nil =>
        rw [show (([] : List Int).map PyData.int).isEmpty = true from rfl]
        walk_at "fl.w"
        rename_i v G2 v0 v1 k2 o2 t ht
        have f2 : Fl.Fr [d] H G2 := (fG.trans (Fr.new hE0)).trans o2.fr
        have al2 : Al S G2 := hS.fr f2 (.cons k2.hd .nil)
        exact q t _ [v] (f2.trans (Fr.new ht)) (k2.newH ht) (.lst (al2.ni ht) upd_same (.cons (.int _) .nil)) ⟨by simp, upto_one v0 v1⟩
      | cons r0 rs =>
        rw [show ((r0 :: rs).map PyData.int).isEmpty = false from rfl]
        walk_at "fl.w"
        exact q D _ (r0 :: rs) (fG.trans (Fr.new hE0)) (kG.newH hE0) (dD.newH hE0) ⟨by simp, hpr⟩
def spSets : Sp := fun vs H Q _ => ∃ (S : List Addr) (d : Addr) (n lo hi : Nat), vs = [.ref d, .int (n : Int), .int (lo : Int), .int (hi : Int)] ∧ Al S H ∧ d ∈ S ∧ Dw d H ∧ 0 < n ∧ n ≤ 60 ∧ lo ≤ hi ∧ hi ≤ 10 ∧
  ∀ t H' (sl : List (List Int)), Fl.Fr [d] H H' → Dw d H' → Dq S H' (.ref t) (setsD sl) → lo ≤ sl.length → sl.length ≤ hi → (∀ c, c ∈ sl → IsSet n c) → Q (.ref t) H'
theorem ok_law_sets (T : Txt K mg) : Has P w K mg base 3 "_law_sets" ps_law_sets spSets := by
  have h_law_take := ok_law_take (P := P) (w := w) (base := base) T
  have h_law_set := ok_law_set (P := P) (w := w) (base := base) T
  refine has_of T.d_law_sets sc_law_sets bd_law_sets (fun vs H Q E h => ?_) (fun f cdv A outer s H vs Q E hr h => ?_)
  · obtain ⟨S, d, n, lo, hi, rfl, _⟩ := h
    rfl
  · obtain ⟨S, d, n, lo, hi, rfl, hS, hd, hk, hn, hn2, hlo, hhi, q⟩ := h
    refine ⟨_, (pss_one (ps_ret (pe_lc (own := [("k", 4)]) rfl sc_law_sets.nd (pi_range1 (by rfl) T.z_range (pa_cons (pe_op op_add (pv 2) (pe_h h_law_take (hr.mono (by decide)) (pa_cons (pv 0) (pa_cons (pe_op op_add (pe_op op_sub (pv 3) (pv 2)) pe_int) pa_nil)))) pa_nil)) (blkOk_by (by kernel_rfl)) (fun _ _ _ _ _ => (pg_name (i := 4) sc_law_sets.nd rfl (.inl rfl))) (fun _ _ _ _ _ => pts_nil) (fun _ _ _ _ _ => (pe_h h_law_set (hr.mono (by decide)) (pa_cons (pv 0) (pa_cons (pv 1) pa_nil))))))), ?_⟩
    walk_at "fl.w"
    rename_i v G0 v0 v1 k0 o0
    have one : ∀ b, b ∈ [d] → b ∈ S := fun b m => by rw [show b = d by simpa using m]; exact hd
    have al0 : Al S G0 := hS.fr o0.fr (.cons k0.hd .nil)
    generalize hN : ((lo : Int) + v).toNat = N
    have hN2 : lo ≤ N ∧ N ≤ hi := by omega
    refine lcGf (S := S) intsD [d] (Dw d) (fun i rs => rs.length = i ∧ ∀ c, c ∈ rs → IsSet n c) al0 one k0 ⟨rfl, fun _ m => nomatch m⟩ (by omega) (fun H k => .cons k.hd .nil) (fun D H o e k => k.put (k0.ned e)) ?_ ?_
    · intro D i G rs hD hi hAl hkG _ hpr R N hR hN
      refine ⟨rfl, ?_⟩
      walk_at "fl.w"
      refine ⟨D :: S, d, n, rfl, hAl, List.mem_cons_of_mem _ hd, hkG, hn, hn2, fun t H' c f k dq hc => ?_⟩
      exact hR _ _ c f k dq ⟨by rw [List.length_append, hpr.1]; rfl, fun c' m => by
        rcases List.mem_append.mp m with m | m
        · exact hpr.2 c' m
        · rw [show c' = c by simpa using m]
          exact hc⟩
    · intro D G rs fG kG hD dD hl hpr
      walk_at "fl.w"
      exact q D G rs (o0.fr.trans fG) kG dD (by omega) (by omega) hpr.2
/-- a rule that is drawn -/
structure RuD (n : Nat) (kind : Str) (cl : List Int) (r : RuV) : Prop where
  i : (kind = "single" ∨ kind = "multiple" ∨ kind = "reverse") → r.inside.length = 1
  i2 : kind = "ligature" → 2 ≤ r.inside.length
  i3 : 1 ≤ r.inside.length ∧ r.inside.length ≤ 4
  b : r.back.length ≤ 3
  a : r.ahead.length ≤ 3
  ba : ¬ (kind = "chain" ∨ kind = "reverse") → r.back = [] ∧ r.ahead = []
  s : ∀ c, c ∈ r.inside ++ r.back ++ r.ahead → IsSet n c
  o : r.out.length ≤ 8
  og : ∀ g, g ∈ r.out → 0 ≤ g ∧ g < n
  oc : kind = "chain" → r.out = []
  os : (kind = "single" ∨ kind = "reverse") → ∀ l, r.inside[0]? = some l → r.out.length = l.length
  ol : kind = "ligature" → r.out.length = 1
  c : kind ≠ "chain" → r.calls = []
  cu : ∀ (i : Nat) p, r.calls[i]? = some p → prv (r.calls.map Prod.fst) i < p.1 ∧ p.1 < r.inside.length ∧ p.2 ∈ cl
  om : kind = "multiple" → r.out.length ≤ 3
def spRul : Sp := fun vs H Q _ => ∃ (S : List Addr) (d ca : Addr) (n : Nat) (kind : Str) (cl : List Int), vs = [.ref d, .str kind, .int (n : Int), .ref ca] ∧ Al S H ∧ d ∈ S ∧ Dw d H ∧ Dq S H (.ref ca) (intsD cl) ∧ cl.length ≤ 10 ∧ 0 < n ∧ n ≤ 8 ∧ kind ∈ kindsR ∧
  ∀ t H' (r : RuV), Fl.Fr [d] H H' → Dw d H' → Dq S H' (.ref t) (ruT r) → RuD n kind cl r → Q (.ref t) H'
end

section
variable {S X : List Addr} {H1 : Hp} {α : Type} {K : PySem.W.Frag}
theorem lcGl (f : α → PyData) {a : Addr} {xs : List V} {j : Nat} {tt : TT} {te : TE} {vs : List Nat} {σ : L2.St} {Q : VK} (X : List Addr) (I : Hp → Prop) (Pr : Nat → List α → Prop) (hS : Al S H1) (hX : ∀ b, b ∈ X → b ∈ S) (hI : I H1) (h0 : Pr 0 [])
    (ha : H1 a = some (.lst xs)) (na : a ∉ X) (hz : xs.length < 1000)
    (hA : ∀ H, I H → Al X H) (hP : ∀ D H o, H1 D = none → I H → I (upd H D o))
    (step : ∀ (D : Addr) (i : Nat) (x : V) (H : Hp) (rs : List α), H1 D = none → xs[i]? = some x → Al (D :: S) H → I H → Fl.Fr (D :: X) H1 H → Pr i rs →
      ∀ (R : V → Hp → Prop) (N : Hp → Prop), (∀ y H' r, Fl.Fr X H H' → I H' → Dq (D :: S) H' y (f r) → Pr (i + 1) (rs ++ [r]) → R y H') → (∀ H', Fl.Fr X H H' → I H' → Pr (i + 1) rs → N H') →
      wipe ((wipe σ vs).set j (some x)) vs = wipe σ vs ∧ tt ((wipe σ vs).set j (some x)) H fun b H3 => if b = true then te ((wipe σ vs).set j (some x)) H3 R else N H3)
    (q : ∀ (D : Addr) (H : Hp) (rs : List α), Fl.Fr X H1 H → I H → H1 D = none → Dq S H (.ref D) (.list (rs.map f)) → rs.length ≤ xs.length → Pr xs.length rs → Q (.ref D) H) :
    lcK (Itl K a) (gName j) tt te vs σ H1 Q := by
  unfold lcK
  intro D hD
  have hDX : D ∉ X := fun m => hS D (hX D m) hD
  have hDa : a ≠ D := fun e => by rw [e, hD] at ha; cases ha
  refine lc_list (xs := xs) (GenF f S X I Pr H1 D) ⟨⟨[], [], upd_same, .nil, Nat.le_refl _, h0⟩, Fr.same (Fl.Same.new hD), hP D H1 _ hD hI⟩ ?_ ?_ ?_
  · intro i H _ h
    exact SqL.of (h.fr a _ (by
      intro m
      rcases List.mem_cons.mp m with e | m
      · exact hDa e
      · exact na m) ha)
  · intro i x H hx h
    have hlt : i < xs.length := (List.getElem?_eq_some_iff.mp hx).1
    have hAl := h.al hS hA
    obtain ⟨⟨acc, rs, hacc, hd, hl, hp⟩, hf, hi⟩ := h
    exact step D i x H rs hD hx hAl hi hf hp _ _ (fun y H' r f' k dq pr => GenF.put hX hDX (hP D H' _ hD) hacc hd hl (by omega) hf f' k dq pr)
      (fun H' f' k pr => ⟨⟨acc, rs, f' D _ hDX hacc, hd.fr (f'.mono fun b m => List.mem_cons_of_mem _ (hX b m)), by omega, pr⟩, hf.trans (f'.mono fun b m => List.mem_cons_of_mem _ m), k⟩)
  · intro H h
    obtain ⟨⟨acc, rs, hacc, hd, hl, hp⟩, hf, hi⟩ := h
    refine q D H rs (fun b o n e => hf b o (fun m => ?_) e) hi hD (.lst (hS.ni hD) hacc hd.tail) hl hp
    rcases List.mem_cons.mp m with rfl | m
    · rw [hD] at e; cases e
    · exact n m
end
section
variable {P : Program} {w : World} {K : PySem.W.Frag} {mg : Str → Option Value} {base : Heap}
theorem g_inLs {neg : Bool} {H : Hp} {Q : VK} {a : Addr} {xs : List V} {x : V} {b : Bool} (h : SqL K H a xs) (f1 : flatV x = true) (f2 : xs.all flatV = true) (e : (if neg = true then !inV x xs else inV x xs) = b) (q : Q (.bl b) H) : rIn K neg x (.ref a) H Q := ⟨a, xs, rfl, .inl h, f1, f2, by rw [e]; exact q⟩
theorem g_eqS {x y : Str} {b : Bool} {H : Hp} {Q : VK} (e : decide (x = y) = b) (q : Q (.bl b) H) : rEq (.str x) (.str y) H Q := ⟨rfl, by
  have e2 : decide (V.str x = V.str y) = decide (x = y) := by simp
  rw [e2, e]; exact q⟩
local macro_rules | `(tactic| walk_at "fl.t") => `(tactic| ((with_reducible refine g_eqS (b := false) ?_ ?_); (focus decide +kernel)))
local macro_rules | `(tactic| walk_at "fl.t") => `(tactic| ((with_reducible refine g_eqS (b := true) ?_ ?_); (focus decide +kernel)))
local macro_rules | `(tactic| walk_at "fl.t") => `(tactic| ((with_reducible refine g_inLs (b := false) (SqL.of upd_same) ?_ ?_ ?_ ?_); (focus rfl); (focus rfl); (focus rfl)))
local macro_rules | `(tactic| walk_at "fl.t") => `(tactic| ((with_reducible refine g_inLs (b := true) (SqL.of upd_same) ?_ ?_ ?_ ?_); (focus rfl); (focus rfl); (focus rfl)))
local macro_rules | `(tactic| walk_at "fl.t") => `(tactic| ((with_reducible apply tk_app); (focus first | assumption | (with_reducible exact Dw.newH (by assumption) (by assumption))); (focus first | assumption | omega); intro _ _ _ _ _ _))
local macro_rules | `(tactic| walk_at "fl.t") => `(tactic| ((with_reducible apply g_appB); (focus walk_at "fl.raw"); (focus first | assumption | walk_at "fl.cz")))
local macro_rules | `(tactic| walk_at "fl.t") => `(tactic| (with_reducible refine g_bm0 ?_))
local macro_rules | `(tactic| walk_at "fl.t") => `(tactic| (with_reducible refine g_breakS ?_))
local macro_rules | `(tactic| walk_at "fl.w") => `(tactic| repeat walk_at "fl.t")
theorem setsD_ll (sl : List (List Int)) : setsD sl = llD (sl.map iD) := by
  unfold setsD llD iD
  rw [List.map_map]
  rfl
theorem ok_law_rule (T : Txt K mg) : Has P w K mg base 4 "_law_rule" ps_law_rule spRul := by
  have h_law_take := ok_law_take (P := P) (w := w) (base := base) T
  have h_law_set := ok_law_set (P := P) (w := w) (base := base) T
  have h_law_sets := ok_law_sets (P := P) (w := w) (base := base) T
  refine has_of T.d_law_rule sc_law_rule bd_law_rule (fun vs H Q E h => ?_) (fun f cdv A outer s H vs Q E hr h => ?_)
  · obtain ⟨S, d, ca, n, kind, cl, rfl, _⟩ := h
    rfl
  · obtain ⟨S, d, ca, n, kind, cl, rfl, hS, hd, hk, hcl, hl, hn, hn2, hkind, q⟩ := h
    refine ⟨_, (pss_cons (ps_set (i := 4) sc_law_rule.nd rfl (.inl rfl) (pe_h h_law_sets (hr.mono (by decide)) (pa_cons (pv 0) (pa_cons (pv 2) (pa_cons pe_int (pa_cons pe_int pa_nil))))))
      (pss_cons (ps_asg (pe_tup (pa_cons (pe_lst pa_nil) (pa_cons (pe_lst pa_nil) (pa_cons (pe_lst pa_nil) (pa_cons (pe_lst pa_nil) pa_nil))))) (pgT (n := 4) (K := K) rfl (by rfl) (pgs_cons (pg_name (i := 5) sc_law_rule.nd rfl (.inl rfl)) (pgs_cons (pg_name (i := 6) sc_law_rule.nd rfl (.inl rfl)) (pgs_cons (pg_name (i := 7) sc_law_rule.nd rfl (.inl rfl)) (pgs_cons (pg_name (i := 8) sc_law_rule.nd rfl (.inl rfl)) pgs_nil))))))
      (pss_cons (ps_if (pt_cmpR (opIn (K := K) rfl) (pv 1) (pe_lst (pa_cons pe_str (pa_cons pe_str (pa_cons pe_str pa_nil)))) (by rfl))
        (pss_one (ps_set (i := 4) sc_law_rule.nd rfl (.inl rfl) (pe_slice (slL' (K := K) rfl) (pv 4) po_none (po_some pe_int))))
        pss_nil)
      (pss_cons (ps_if (PW.pt (pw_and (pt_cmpR op_eq (pv 1) pe_str (nomark _)) (pw_and1 (pt_cmpR op_eq (pe_callB (clLen (K := K) rfl) (by rfl) T.z_len (by decide +kernel) (pa_cons (pv 4) pa_nil)) pe_int (nomark _)))))
        (pss_one (ps_set (i := 4) sc_law_rule.nd rfl (.inl rfl) (pe_op op_cat (pv 4) (pe_lst (pa_cons (pe_h h_law_set (hr.mono (by decide)) (pa_cons (pv 0) (pa_cons (pv 2) pa_nil))) pa_nil)))))
        pss_nil)
      (pss_cons (ps_if (pt_cmpR (opIn (K := K) rfl) (pv 1) (pe_lst (pa_cons pe_str (pa_cons pe_str pa_nil))) (by rfl))
        (pss_cons (ps_set (i := 5) sc_law_rule.nd rfl (.inl rfl) (pe_h h_law_sets (hr.mono (by decide)) (pa_cons (pv 0) (pa_cons (pv 2) (pa_cons pe_int (pa_cons pe_int pa_nil))))))
      (pss_one (ps_set (i := 6) sc_law_rule.nd rfl (.inl rfl) (pe_h h_law_sets (hr.mono (by decide)) (pa_cons (pv 0) (pa_cons (pv 2) (pa_cons pe_int (pa_cons pe_int pa_nil))))))))
        pss_nil)
      (pss_cons (ps_if (pt_cmpR (opIn (K := K) rfl) (pv 1) (pe_lst (pa_cons pe_str (pa_cons pe_str pa_nil))) (by rfl))
        (pss_one (ps_setLc (i := 7) (own := [("glyph", 10)]) rfl sc_law_rule.nd rfl rfl (sw_true rfl rfl rfl (by decide +kernel)) (piL (K := K) rfl (pe_ix (ixL (K := K) rfl) (pv 4) pe_int (fun _ _ => rfl))) (blkOk_by (by kernel_rfl)) (fun _ _ _ _ _ => (pg_name (i := 10) sc_law_rule.nd rfl (.inl rfl))) (fun _ _ _ _ _ => pts_nil) (fun _ _ _ _ _ => (pe_h h_law_take (hr.mono (by decide)) (pa_cons (pv 0) (pa_cons (pv 2) pa_nil))))))
        pss_nil)
      (pss_cons (ps_if (pt_cmpR op_eq (pv 1) pe_str (nomark _))
        (pss_one (ps_setLc (i := 7) (own := [("k", 11)]) rfl sc_law_rule.nd rfl rfl (sw_true rfl rfl rfl (by decide +kernel)) (pi_range1 (by rfl) T.z_range (pa_cons (pe_h h_law_take (hr.mono (by decide)) (pa_cons (pv 0) (pa_cons pe_int pa_nil))) pa_nil)) (blkOk_by (by kernel_rfl)) (fun _ _ _ _ _ => (pg_name (i := 11) sc_law_rule.nd rfl (.inl rfl))) (fun _ _ _ _ _ => pts_nil) (fun _ _ _ _ _ => (pe_h h_law_take (hr.mono (by decide)) (pa_cons (pv 0) (pa_cons (pv 2) pa_nil))))))
        pss_nil)
      (pss_cons (ps_if (pt_cmpR op_eq (pv 1) pe_str (nomark _))
        (pss_one (ps_set (i := 7) sc_law_rule.nd rfl (.inl rfl) (pe_lst (pa_cons (pe_h h_law_take (hr.mono (by decide)) (pa_cons (pv 0) (pa_cons (pv 2) pa_nil))) pa_nil))))
        pss_nil)
      (pss_cons (ps_if (PW.pt (pw_and (pt_cmpR op_eq (pv 1) pe_str (nomark _)) (pw_and1 (ptTru (K := K) rfl (pv 3) (by intro _; rfl)))))
        (pss_one (ps_for PassesOwn.never rfl (pi_range1 (by rfl) T.z_range (pa_cons (pe_callB (clLen (K := K) rfl) (by rfl) T.z_len (by decide +kernel) (pa_cons (pv 4) pa_nil)) pa_nil)) (pg_name (i := 9) sc_law_rule.nd rfl (.inl rfl))
        (pss_one (ps_if (pt_cmpR op_eq (pe_h h_law_take (hr.mono (by decide)) (pa_cons (pv 0) (pa_cons pe_int pa_nil))) pe_int (nomark _))
        (pss_one (ps_expr (pe_bm PySem.F.plainAttrs_list PySem.F.slot_list_append PySem.F.type_list_append mt_append (pv 8) (pa_cons (pe_tup (pa_cons (pv 9) (pa_cons (pe_ix (ixL (K := K) rfl) (pv 3) (pe_h h_law_take (hr.mono (by decide)) (pa_cons (pv 0) (pa_cons (pe_callB (clLen (K := K) rfl) (by rfl) T.z_len (by decide +kernel) (pa_cons (pv 3) pa_nil)) pa_nil))) (fun _ _ => rfl)) pa_nil))) pa_nil))))
        pss_nil))))
        pss_nil)
      (pss_one (ps_ret (pe_tup (pa_cons (pv 4) (pa_cons (pv 5) (pa_cons (pv 6) (pa_cons (pv 7) (pa_cons (pv 8) pa_nil))))))))))))))))), ?_⟩
    have one : ∀ b, b ∈ [d] → b ∈ S := fun b m => by rw [show b = d by simpa using m]; exact hd
    have fin : ∀ (G : Hp) (a b c e g t : Addr) (r : RuV), Fl.Fr [d] H G → Dw d G → Dq S G (.ref a) (setsD r.inside) → Dq S G (.ref b) (setsD r.back) → Dq S G (.ref c) (setsD r.ahead) → Dq S G (.ref e) (intsD r.out) → Dq S G (.ref g) (ltD (r.calls.map fun p => [.int p.1, .int p.2])) → RuD n kind cl r → G t = none → Q (.ref t) (upd G t (.tup [.ref a, .ref b, .ref c, .ref e, .ref g])) := by
      intro G a b c e g t r fG kG d1 d2 d3 d4 d5 rd ht
      have alG : Al S G := hS.fr fG (.cons kG.hd .nil)
      refine q t _ r (fG.trans (Fr.new ht)) (kG.newH ht) (.newT alG ht ?_) rd
      rw [setsD_ll] at d1 d2 d3
      exact .cons d1 (.cons d2 (.cons d3 (.cons d4 (.cons d5 .nil))))
    clear q
    walk_at "fl.w"
    refine ⟨S, d, n, 1, 3, rfl, hS, hd, hk, hn, by omega, by omega, by omega, fun ti H1 si f1 k1 di li1 li2 hsi => ?_⟩
    walk_at "fl.w"
    rename_i p5 e5 p4 e4 p3 e3 p2 e2 p1 e1 p0 e0
    have al1 : Al S H1 := hS.fr f1 (.cons k1.hd .nil)
    have r5 := raw_new (u := .lst [.str "single", .str "multiple", .str "reverse"]) e0 (raw_new (u := .tup [.ref p5, .ref p4, .ref p3, .ref p2]) e1 (raw_new (u := .lst []) e2 (raw_new (u := .lst []) e3 (raw_new (u := .lst []) e4 (upd_same (H := H1) (a := p5) (o := .lst []))))))
    have r4 := raw_new (u := .lst [.str "single", .str "multiple", .str "reverse"]) e0 (raw_new (u := .tup [.ref p5, .ref p4, .ref p3, .ref p2]) e1 (raw_new (u := .lst []) e2 (raw_new (u := .lst []) e3 (upd_same (H := upd H1 p5 (.lst [])) (a := p4) (o := .lst [])))))
    have r3 := raw_new (u := .lst [.str "single", .str "multiple", .str "reverse"]) e0 (raw_new (u := .tup [.ref p5, .ref p4, .ref p3, .ref p2]) e1 (raw_new (u := .lst []) e2 (upd_same (H := upd (upd H1 p5 (.lst [])) p4 (.lst [])) (a := p3) (o := .lst []))))
    have r2 := raw_new (u := .lst [.str "single", .str "multiple", .str "reverse"]) e0 (raw_new (u := .tup [.ref p5, .ref p4, .ref p3, .ref p2]) e1 (upd_same (H := upd (upd (upd H1 p5 (.lst [])) p4 (.lst [])) p3 (.lst [])) (a := p2) (o := .lst [])))
    have n5 := al1.ni e5
    have n4 := (al1.newH (u := .lst []) e5).ni e4
    have n3 := ((al1.newH (u := .lst []) e5).newH (u := .lst []) e4).ni e3
    have n2 := (((al1.newH (u := .lst []) e5).newH (u := .lst []) e4).newH (u := .lst []) e3).ni e2
    have s3 := ((Fl.Same.new (o := .lst []) e5).trans (Fl.Same.new (o := .lst []) e4)).trans (Fl.Same.new (o := .lst []) e3)
    have z2 : H1 p2 = none := Same.free s3 e2
    have n52 : p5 ≠ p2 := ne_of_none (raw_new (u := .lst []) e3 (raw_new (u := .lst []) e4 (upd_same (H := H1) (a := p5) (o := .lst [])))) e2
    have n42 : p4 ≠ p2 := ne_of_none (raw_new (u := .lst []) e3 (upd_same (H := upd H1 p5 (.lst [])) (a := p4) (o := .lst []))) e2
    have n32 : p3 ≠ p2 := ne_of_none (upd_same (H := upd (upd H1 p5 (.lst [])) p4 (.lst [])) (a := p3) (o := .lst [])) e2
    have sG := ((s3.trans (Fl.Same.new (o := .lst []) e2)).trans (Fl.Same.new (o := .tup [.ref p5, .ref p4, .ref p3, .ref p2]) e1)).trans (Fl.Same.new (o := .lst [.str "single", .str "multiple", .str "reverse"]) e0)
    have r0 := upd_same (H := upd (upd (upd (upd (upd H1 p5 (.lst [])) p4 (.lst [])) p3 (.lst [])) p2 (.lst [])) p1 (.tup [.ref p5, .ref p4, .ref p3, .ref p2])) (a := p0) (o := .lst [.str "single", .str "multiple", .str "reverse"])
    generalize upd (upd (upd (upd (upd (upd H1 p5 (.lst [])) p4 (.lst [])) p3 (.lst [])) p2 (.lst [])) p1 (.tup [.ref p5, .ref p4, .ref p3, .ref p2])) p0 (.lst [.str "single", .str "multiple", .str "reverse"]) = G at r5 r4 r3 r2 sG r0 ⊢
    clear e5 e4 e3 e2 e1 e0 s3
    have dI := (di.new z2).same sG
    have fG : Fl.Fr [d] H G := f1.trans (Fr.same sG)
    have kG : Dw d G := k1.sm sG
    have alG : Al S G := al1.same sG
    have ndp : p2 ≠ d := fun e => n2 (e ▸ hd)
    have dC := ((Dq.frd f1 hd hcl).new z2).same sG
    have hzp : ∀ o, H p2 ≠ some o := fun o h => by
      have := f1 p2 o (fun m => n2 ((show p2 = d by simpa using m) ▸ hd)) h
      rw [z2] at this
      cases this
    clear sG di z2 al1 f1 k1 H1
    obtain ⟨c0, sr, rfl⟩ : ∃ c0 sr, si = c0 :: sr := by
      cases si with
      | nil => simp at li1
      | cons c0 sr => exact ⟨c0, sr, rfl⟩
    obtain ⟨_, xs, ee, nti, hti, hX⟩ := dI.lstE
    cases ee
    obtain ⟨x0, xr, rfl, hx0, hXr⟩ := hX.consE
    obtain ⟨a0, zs, rfl, na0, ha0, hZ⟩ := hx0.lstE
    have lz := hZ.len
    rw [List.length_map] at lz
    have lc0 := (hsi c0 (by simp)).len
    have ntd : ti ∉ [d] := fun m => by
      rw [show ti = d by simpa using m] at nti
      exact nti (List.mem_cons_of_mem _ hd)
    have dc0 : Dq S G (.ref a0) (.list (c0.map .int)) := Dq.tail (.lst na0 ha0 hZ)
    simp only [kindsR, List.mem_cons, List.not_mem_nil, or_false] at hkind
    rcases hkind with rfl | rfl | rfl | rfl | rfl
    · refine g_inLs (b := true) (SqL.of r0) rfl rfl rfl ?_
      walk_at "fl.w"
      rename_i pi hpi pa hpa pb hpb
      have f3 : Fl.Fr [d] G (upd (upd (upd G pi (.lst (List.take 1 (V.ref a0 :: xr)))) pa (.lst [.str "chain", .str "reverse"])) pb (.lst [.str "single", .str "reverse"])) := ((Fr.new hpi).trans (Fr.new hpa)).trans (Fr.new hpb)
      have k3 : Dw d (upd (upd (upd G pi (.lst (List.take 1 (V.ref a0 :: xr)))) pa (.lst [.str "chain", .str "reverse"])) pb (.lst [.str "single", .str "reverse"])) := ((kG.newH hpi).newH hpa).newH hpb
      have al3 := hS.fr (fG.trans f3) (.cons k3.hd .nil)
      refine lcGl (S := S) PyData.int [d] (Dw d) (fun i rs => rs.length = i ∧ ∀ g, g ∈ rs → 0 ≤ g ∧ g < (n : Int)) al3 one k3 ⟨rfl, fun _ m => nomatch m⟩ (f3 _ _ ?_ ha0) ?_ (by omega) (fun H k => .cons k.hd .nil) (fun D H o e k => k.put (k3.ned e)) ?_ ?_
      · intro m
        rw [show a0 = d by simpa using m] at na0
        exact na0 (List.mem_cons_of_mem _ hd)
      · intro m
        rw [show a0 = d by simpa using m] at na0
        exact na0 (List.mem_cons_of_mem _ hd)
      · intro D i x G1 rs hD hx hAl hkG _ hpr R N hR hN
        refine ⟨rfl, ?_⟩
        walk_at "fl.w"
        rename_i v G2 v0 v1 k2 o2
        exact hR _ _ v o2.fr k2 (.int _) ⟨by rw [List.length_append, hpr.1]; rfl, fun g m => by
          rcases List.mem_append.mp m with m | m
          · exact hpr.2 g m
          · rw [show g = v by simpa using m]
            exact ⟨v0, v1⟩⟩
      · intro D G1 rs f4 kG1 hD dD hl2 hpr
        walk_at "fl.w"
        have dn : ∀ p, p ∉ S → G p = some (.lst []) → Dq S G1 (.ref p) (.list []) := fun p np rp => Dq.frd (f3.trans f4) hd (.lst np rp .nil)
        exact fin G1 pi p5 p4 D p2 _ ⟨[c0], [], [], rs, []⟩ ((fG.trans f3).trans f4) kG1 (Dq.frd f4 hd (((Dq.newL alG hpi (.cons dc0 .nil)).newH hpa).newH hpb)) (dn _ n5 r5) (dn _ n4 r4) dD (dn _ n2 r2)
          { om := fun h => (by first | exact absurd h (by decide +kernel) | (have := hpr.1; show rs.length ≤ 3; omega)), i := fun _ => rfl, i2 := fun h => absurd h (by decide +kernel), i3 := ⟨Nat.le_refl 1, by show (1 : Nat) ≤ 4; omega⟩, b := Nat.zero_le 3, a := Nat.zero_le 3, ba := fun _ => ⟨rfl, rfl⟩, s := fun c m => hsi c (by simp at m ⊢; exact .inl m), o := by have := hpr.1; show rs.length ≤ 8; omega, og := hpr.2, oc := fun h => absurd h (by decide +kernel), os := fun _ l e => by cases e; have := hpr.1; show rs.length = c0.length; omega, ol := fun h => absurd h (by decide +kernel), c := fun _ => rfl, cu := fun i p e => by simp at e } (by assumption)
    · refine g_inLs (b := true) (SqL.of r0) rfl rfl rfl ?_
      walk_at "fl.w"
      rename_i pi hpi pa hpa pb hpb
      have f3 : Fl.Fr [d] G (upd (upd (upd G pi (.lst (List.take 1 (V.ref a0 :: xr)))) pa (.lst [.str "chain", .str "reverse"])) pb (.lst [.str "single", .str "reverse"])) := ((Fr.new hpi).trans (Fr.new hpa)).trans (Fr.new hpb)
      have k3 : Dw d (upd (upd (upd G pi (.lst (List.take 1 (V.ref a0 :: xr)))) pa (.lst [.str "chain", .str "reverse"])) pb (.lst [.str "single", .str "reverse"])) := ((kG.newH hpi).newH hpa).newH hpb
      refine tk_app k3 (by omega) (fun v G3 v0 v1 k4 o4 => ?_)
      walk_at "fl.w"
      have al3 := hS.fr ((fG.trans f3).trans o4.fr) (.cons k4.hd .nil)
      generalize hN : v.toNat = N
      have hN2 : N ≤ 3 := by omega
      refine lcGf (S := S) PyData.int [d] (Dw d) (fun i rs => rs.length = i ∧ ∀ g, g ∈ rs → 0 ≤ g ∧ g < (n : Int)) al3 one k4 ⟨rfl, fun _ m => nomatch m⟩ (by omega) (fun H k => .cons k.hd .nil) (fun D H o e k => k.put (k4.ned e)) ?_ ?_
      · intro D i G1 rs hD hi hAl hkG _ hpr R N hR hN
        refine ⟨rfl, ?_⟩
        walk_at "fl.w"
        rename_i v2 G2 v02 v12 k2 o2
        exact hR _ _ v2 o2.fr k2 (.int _) ⟨by rw [List.length_append, hpr.1]; rfl, fun g m => by
          rcases List.mem_append.mp m with m | m
          · exact hpr.2 g m
          · rw [show g = v2 by simpa using m]
            exact ⟨v02, v12⟩⟩
      · intro D G1 rs f4 kG1 hD dD hl2 hpr
        walk_at "fl.w"
        have f5 := o4.fr.trans f4
        have dn : ∀ p, p ∉ S → G p = some (.lst []) → Dq S G1 (.ref p) (.list []) := fun p np rp => Dq.frd (f3.trans f5) hd (.lst np rp .nil)
        exact fin G1 pi p5 p4 D p2 _ ⟨[c0], [], [], rs, []⟩ ((fG.trans f3).trans f5) kG1 (Dq.frd f5 hd (((Dq.newL alG hpi (.cons dc0 .nil)).newH hpa).newH hpb)) (dn _ n5 r5) (dn _ n4 r4) dD (dn _ n2 r2)
          { om := fun h => (by first | exact absurd h (by decide +kernel) | (have := hpr.1; show rs.length ≤ 3; omega)), i := fun _ => rfl, i2 := fun h => absurd h (by decide +kernel), i3 := ⟨Nat.le_refl 1, by show (1 : Nat) ≤ 4; omega⟩, b := Nat.zero_le 3, a := Nat.zero_le 3, ba := fun _ => ⟨rfl, rfl⟩, s := fun c m => hsi c (by simp at m ⊢; exact .inl m), o := by have := hpr.1; show rs.length ≤ 8; omega, og := hpr.2, oc := fun h => absurd h (by decide +kernel), os := fun h => absurd h (by decide +kernel), ol := fun h => absurd h (by decide +kernel), c := fun _ => rfl, cu := fun i p e => by simp at e } (by assumption)
    · refine g_inLs (b := false) (SqL.of r0) rfl rfl rfl ?_
      walk_at "fl.w"
      refine g_ite (fun h1 => ?_) (fun h1 => ?_)
      · walk_at "fl.w"
        refine ⟨S, d, n, rfl, alG, hd, kG, hn, by omega, fun tc G3 c1 f4 k4 dc1 hc1 => ?_⟩
        have hti3 := f4 _ _ ntd hti
        walk_at "fl.w"
        rename_i pn hpn
        have e1 := hXr.len
        rw [List.length_map] at e1
        simp only [List.length_cons] at h1 li2
        refine g_cat (raw_new hpn hti3) upd_same (by simp only [List.length_cons, List.length_nil]; omega) (fun pj hpj => ?_)
        walk_at "fl.w"
        rename_i pa hpa pb hpb
        refine tk_app ((((k4.newH hpn).newH hpj).newH hpa).newH hpb) (by omega) (fun v G4 v0 v1 k5 o5 => ?_)
        walk_at "fl.w"
        rename_i pl hpl pt hpt
        have al3 := hS.fr (fG.trans f4) (.cons k4.hd .nil)
        have f6 : Fl.Fr [d] (upd (upd G3 pn (.lst [.ref tc])) pj (.lst ((.ref a0 :: xr) ++ [.ref tc]))) (upd G4 pl (.lst [.int v])) := (((Fr.new hpa).trans (Fr.new hpb)).trans o5.fr).trans (Fr.new hpl)
        have f5 : Fl.Fr [d] G (upd G4 pl (.lst [.int v])) := f4.trans (((Fr.new hpn).trans (Fr.new hpj)).trans f6)
        have dn : ∀ p, p ∉ S → G p = some (.lst []) → Dq S (upd G4 pl (.lst [.int v])) (.ref p) (.list []) := fun p np rp => Dq.frd f5 hd (.lst np rp .nil)
        have alE := ((((al3.newH (u := .lst [.ref tc]) hpn).newH (u := .lst ((.ref a0 :: xr) ++ [.ref tc])) hpj).newH (u := .lst [.str "chain", .str "reverse"]) hpa).newH (u := .lst [.str "single", .str "reverse"]) hpb).fr o5.fr (.cons k5.hd .nil)
        have hin : Dq S (upd (upd G3 pn (.lst [.ref tc])) pj (.lst ((.ref a0 :: xr) ++ [.ref tc]))) (.ref pj) (setsD ((c0 :: sr) ++ [c1])) := by
          unfold setsD
          rw [List.map_append]
          refine .newL (al3.newH hpn) hpj (DqA.app ?_ (.one (dc1.newH hpn)))
          exact (hX.tail.fr (f4.mono one)).newH hpn
        exact fin _ pj p5 p4 pl p2 _ ⟨(c0 :: sr) ++ [c1], [], [], [v], []⟩ (fG.trans f5) (k5.newH hpl) (Dq.frd f6 hd hin) (dn _ n5 r5) (dn _ n4 r4) (.newL alE hpl (.cons (.int _) .nil)) (dn _ n2 r2)
          { om := fun h => (by first | exact absurd h (by decide +kernel) | (have := hpr.1; show rs.length ≤ 3; omega)), i := fun h => absurd h (by decide +kernel), i2 := fun _ => by simp, i3 := ⟨by simp, by simp; omega⟩, b := Nat.zero_le 3, a := Nat.zero_le 3, ba := fun _ => ⟨rfl, rfl⟩, s := fun c m => by
              rw [List.append_nil, List.append_nil] at m
              rcases List.mem_append.mp m with m | m
              · exact hsi c m
              · rw [show c = c1 by simpa using m]
                exact hc1, o := by show 1 ≤ 8; omega, og := fun g m => by rw [show g = v by simpa using m]; exact ⟨v0, v1⟩, oc := fun h => absurd h (by decide +kernel), os := fun h => absurd h (by decide +kernel), ol := fun _ => rfl, c := fun _ => rfl, cu := fun i p e => by simp at e } (by assumption)
      · walk_at "fl.w"
        rename_i pa hpa pb hpb
        refine tk_app ((kG.newH hpa).newH hpb) (by omega) (fun v G3 v0 v1 k4 o4 => ?_)
        walk_at "fl.w"
        rename_i pl hpl pt hpt
        have f4 : Fl.Fr [d] G (upd G3 pl (.lst [.int v])) := (((Fr.new hpa).trans (Fr.new hpb)).trans o4.fr).trans (Fr.new hpl)
        have dn : ∀ p, p ∉ S → G p = some (.lst []) → Dq S (upd G3 pl (.lst [.int v])) (.ref p) (.list []) := fun p np rp => Dq.frd f4 hd (.lst np rp .nil)
        have al3 := hS.fr ((((fG.trans (Fr.new hpa)).trans (Fr.new hpb))).trans o4.fr) (.cons k4.hd .nil)
        have hsr : 2 ≤ (c0 :: sr).length := by
          have e1 := hXr.len
          rw [List.length_map] at e1
          simp only [List.length_cons] at h1 ⊢
          omega
        exact fin _ ti p5 p4 pl p2 _ ⟨c0 :: sr, [], [], [v], []⟩ (fG.trans f4) (k4.newH hpl) (Dq.frd f4 hd dI.tail) (dn _ n5 r5) (dn _ n4 r4) (.newL al3 hpl (.cons (.int _) .nil)) (dn _ n2 r2)
          { om := fun h => (by first | exact absurd h (by decide +kernel) | (have := hpr.1; show rs.length ≤ 3; omega)), i := fun h => absurd h (by decide +kernel), i2 := fun _ => hsr, i3 := ⟨by show 1 ≤ (c0 :: sr).length; omega, by show (c0 :: sr).length ≤ 4; omega⟩, b := Nat.zero_le 3, a := Nat.zero_le 3, ba := fun _ => ⟨rfl, rfl⟩, s := fun c m => hsi c (by simp at m ⊢; exact m), o := by show 1 ≤ 8; omega, og := fun g m => by rw [show g = v by simpa using m]; exact ⟨v0, v1⟩, oc := fun h => absurd h (by decide +kernel), os := fun h => absurd h (by decide +kernel), ol := fun _ => rfl, c := fun _ => rfl, cu := fun i p e => by simp at e } (by assumption)
    · refine g_inLs (b := false) (SqL.of r0) rfl rfl rfl ?_
      walk_at "fl.w"
      rename_i pa hpa
      have f3 : Fl.Fr [d] G (upd G pa (.lst [.str "chain", .str "reverse"])) := Fr.new hpa
      have k3 := kG.newH (o := .lst [.str "chain", .str "reverse"]) hpa
      have m2 : d ∈ p2 :: S := List.mem_cons_of_mem _ hd
      have al3 : Al (p2 :: S) (upd G pa (.lst [.str "chain", .str "reverse"])) := (Al.cons (by rw [r2]; simp) alG).newH hpa
      refine ⟨p2 :: S, d, n, 0, 2, rfl, al3, m2, k3, hn, by omega, by omega, by omega, fun tb H2 sb fb kb db lb1 lb2 hsb => ?_⟩
      walk_at "fl.w"
      have al4 := al3.fr fb (.cons kb.hd .nil)
      refine ⟨p2 :: S, d, n, 0, 2, rfl, al4, m2, kb, hn, by omega, by omega, by omega, fun ta H3 sa fa ka da la1 la2 hsa => ?_⟩
      have al5 := al4.fr fa (.cons ka.hd .nil)
      walk_at "fl.w"
      rename_i pc hpc
      have k6 := ka.newH (o := .lst [.str "single", .str "reverse"]) hpc
      have al6 := al5.newH (u := .lst [.str "single", .str "reverse"]) hpc
      have f5 := fa.trans (Fr.new (o := .lst [.str "single", .str "reverse"]) hpc)
      have f6 := f3.trans (fb.trans f5)
      have f7 : Fl.Fr (p2 :: S) H3 _ := Fr.new (o := .lst [.str "single", .str "reverse"]) hpc
      have n2d : p2 ∉ [d] := fun m => ndp (by simpa using m)
      have q2 := f6 _ _ n2d r2
      have dI4 := Dq.frd f6 m2 dI
      have dC4 := Dq.frd f6 m2 dC
      have db4 := Dq.frd f5 m2 db
      have da4 := da.fr f7
      have do4 := Dq.frd f6 m2 (.lst (S := p2 :: S) (fun m => by
        rcases List.mem_cons.mp m with m | m
        · exact n32 m
        · exact n3 m) r3 .nil)
      clear f7 f5 fb fa al5 db da ka al4 kb k3 al3
      generalize upd H3 pc (.lst [.str "single", .str "reverse"]) = H4 at k6 al6 f6 q2 dI4 dC4 db4 da4 do4 ⊢
      clear f3 hpc hpa pa
      obtain ⟨_, cs, ee, nca, hca, hC⟩ := dC4.lstE
      cases ee
      obtain ⟨_, xs4, ee, nti4, hti4, hX4⟩ := dI4.lstE
      cases ee
      have lx4 := hX4.len
      rw [List.length_map] at lx4
      have rud : ∀ ls : List (Int × Int), UpTo (((c0 :: sr).length : Nat) : Int) (ls.map Prod.fst) → (∀ p, p ∈ ls → p.2 ∈ cl) → RuD n "chain" cl ⟨c0 :: sr, sb, sa, [], ls⟩ := fun ls hu hc =>
          { om := fun h => (by first | exact absurd h (by decide +kernel) | (have := hpr.1; show rs.length ≤ 3; omega)), i := fun h => absurd h (by decide +kernel), i2 := fun h => absurd h (by decide +kernel), i3 := ⟨by show 1 ≤ (c0 :: sr).length; omega, by show (c0 :: sr).length ≤ 4; omega⟩, b := by show sb.length ≤ 3; omega, a := by show sa.length ≤ 3; omega, ba := fun h => absurd (.inl rfl) h, s := fun c m => by
              rcases List.mem_append.mp m with m | m
              · rcases List.mem_append.mp m with m | m
                · exact hsi c m
                · exact hsb c m
              · exact hsa c m, o := Nat.zero_le 8, og := fun g m => (nomatch m), oc := fun _ => rfl, os := fun h => absurd h (by decide +kernel), ol := fun h => absurd h (by decide +kernel), c := fun h => absurd rfl h, cu := fun i p e => by
              have := hu i p.1 (by rw [List.getElem?_map, e]; rfl)
              exact ⟨this.1, this.2, hc p (List.mem_of_getElem? e)⟩ }
      cases cl with
      | nil =>
        cases hC.nilE
        refine g_tru0 (SqL.of hca) ?_
        walk_at "fl.w"
        exact fin _ ti tb ta p3 p2 _ ⟨c0 :: sr, sb, sa, [], []⟩ (fG.trans f6) k6 dI4.tail db4.tail da4.tail do4.tail (.lst n2 q2 .nil) (rud [] (fun i g e => by simp at e) (fun _ m => nomatch m)) (by assumption)
      | cons y0 ys =>
        obtain ⟨v0, vs, rfl, hv0, hvs⟩ := hC.consE
        refine g_tru1 (SqL.of hca) ?_
        walk_at "fl.w"
        have lvs := hvs.len
        rw [List.length_map] at lvs
        simp only [List.length_cons] at hl
        have nca2 : ca ∉ [p2, d] := fun m => nca (by rcases List.mem_cons.mp m with rfl | m; · simp
                                                     · exact List.mem_cons_of_mem _ ((show ca = d by simpa using m) ▸ hd))
        have nti2 : ti ∉ [p2, d] := fun m => nti4 (by rcases List.mem_cons.mp m with rfl | m; · simp
                                                      · exact List.mem_cons_of_mem _ ((show ti = d by simpa using m) ▸ hd))
        have in2 : ∀ b, b ∈ [p2, d] → b ∈ p2 :: S := fun b m => by
          rcases List.mem_cons.mp m with rfl | m
          · simp
          · exact List.mem_cons_of_mem _ ((show b = d by simpa using m) ▸ hd)
        rw [show ((xs4.length : Nat) : Int).toNat = (c0 :: sr).length by omega]
        refine forK_r (fun i σ' G' => (∃ u, σ' = [some (.ref d), some (.str "chain"), some (.int (n : Int)), some (.ref ca), some (.ref ti), some (.ref tb), some (.ref ta), some (.ref p3), some (.ref p2), u, none, none]) ∧ Fl.Fr [p2, d] H4 G' ∧ Dw d G' ∧ ∃ (acc : List V) (ls : List (Int × Int)), G' p2 = some (.lst acc) ∧ DqA (p2 :: S) G' acc (ls.map fun p => .tuple [.int p.1, .int p.2]) ∧ ls.length ≤ i ∧ UpTo (i : Int) (ls.map Prod.fst) ∧ ∀ p, p ∈ ls → p.2 ∈ y0 :: ys) ⟨⟨_, rfl⟩, Fr.refl, k6, [], [], q2, .nil, Nat.le_refl _, fun i g e => by simp at e, fun _ m => nomatch m⟩ ?_ ?_
        · intro i σ' G1 hi ⟨⟨u, e⟩, f1, k1, acc, ls, ha, hd1, hl1, hu, hc⟩
          subst e
          rw [Int.zero_add]
          walk_at "fl.w"
          rename_i v G2 v0' v1' k2 o2
          have nd2 : ∀ b, b ∈ [d] → b ∈ [p2, d] := fun b m => List.mem_cons_of_mem _ m
          have ncd : ca ∉ [d] := fun m => nca2 (nd2 _ m)
          have hca2 := o2.fr _ _ ncd (f1 _ _ nca2 hca)
          have hp22 := o2.fr _ _ n2d ha
          refine g_ite (fun _ => ?_) (fun _ => ?_)
          · walk_at "fl.w"
            refine tk_app k2 (by simp only [List.length_cons]; omega) (fun y G3 y0' y1' k3 o3 => ?_)
            simp only [List.length_cons] at y1'
            obtain ⟨j, rfl⟩ : ∃ j : Nat, y = (j : Int) := ⟨y.toNat, by omega⟩
            obtain ⟨z, hz⟩ : ∃ z, (y0 :: ys)[j]? = some z := ⟨_, List.getElem?_eq_getElem (by simp only [List.length_cons]; omega)⟩
            obtain ⟨vz, hvz, hdz⟩ := hC.getD (i := j) (d := .int z) (by rw [List.getElem?_map, hz]; rfl)
            cases hdz.intE
            have hca3 := o3.fr _ _ ncd hca2
            have hp23 := o3.fr _ _ n2d hp22
            have hal : acc.length < 100000 := by
              have := hd1.len
              rw [List.length_map] at this
              have : i < (c0 :: sr).length := hi
              omega
            walk_at "fl.w"
            refine g_ixL (SqL.of hca3) (atI_nat (j := j) hvz) ?_
            walk_at "fl.w"
            rename_i pt hpt
            have fs := (f1.trans ((o2.fr.mono nd2).trans (o3.fr.mono nd2)))
            have alG3 := al6.fr fs (.cons (by rw [hp23]; simp) (.cons k3.hd .nil))
            refine ⟨⟨_, rfl⟩, fs.trans ((Fr.new hpt).trans (Fr.upd (by simp))), (k3.newH hpt).put ndp, acc ++ [.ref pt], ls ++ [((i : Int), z)], upd_same, ?_, ?_, ?_, ?_⟩
            · rw [List.map_append]
              exact ((hd1.fr ((o2.frS m2).trans ((o3.frS m2).trans (Fr.new hpt)))).app (.one (.newT alG3 hpt (.cons (.int _) (.cons (.int _) .nil))))).fr (Fr.upd (by simp))
            · rw [List.length_append]
              simp
              omega
            · rw [List.map_append, show ((i + 1 : Nat) : Int) = (i : Int) + 1 by omega]
              exact upto_snoc hu (by omega)
            · intro p m
              rcases List.mem_append.mp m with m | m
              · exact hc p m
              · rw [show p = ((i : Int), z) by simpa using m]
                exact List.mem_of_getElem? hz
          · exact ⟨⟨_, rfl⟩, f1.trans (o2.fr.mono nd2), k2, acc, ls, hp22, hd1.fr (o2.frS m2), by omega, upto_mono hu (by omega), hc⟩
        · intro σ' G1 ⟨⟨u, e⟩, f1, k1, acc, ls, ha, hd1, hl1, hu, hc⟩
          subst e
          walk_at "fl.w"
          have f1S := f1.mono in2
          exact fin _ ti tb ta p3 p2 _ ⟨c0 :: sr, sb, sa, [], ls⟩ (fun b o m e => f1 b o (fun m2 => by
            rcases List.mem_cons.mp m2 with rfl | m2
            · exact hzp o e
            · exact m m2) ((fG.trans f6) b o m e)) k1 (dI4.fr f1S).tail (db4.fr f1S).tail (da4.fr f1S).tail (do4.fr f1S).tail (.lst n2 ha (by rw [show (ls.map fun p => [PyData.int p.1, PyData.int p.2]).map PyData.tuple = ls.map fun p => PyData.tuple [.int p.1, .int p.2] by rw [List.map_map]; rfl]; exact hd1.tail)) (rud ls hu hc) (by assumption)
    · refine g_inLs (b := true) (SqL.of r0) rfl rfl rfl ?_
      walk_at "fl.w"
      rename_i pi hpi pa hpa
      have f3 : Fl.Fr [d] G (upd (upd G pi (.lst (List.take 1 (V.ref a0 :: xr)))) pa (.lst [.str "chain", .str "reverse"])) := (Fr.new hpi).trans (Fr.new hpa)
      have k3 : Dw d (upd (upd G pi (.lst (List.take 1 (V.ref a0 :: xr)))) pa (.lst [.str "chain", .str "reverse"])) := (kG.newH hpi).newH hpa
      have al3 := hS.fr (fG.trans f3) (.cons k3.hd .nil)
      have npi : pi ∉ [d] := fun m => alG.ni hpi ((show pi = d by simpa using m) ▸ hd)
      have na : a0 ∉ [d] := fun m => by
        rw [show a0 = d by simpa using m] at na0
        exact na0 (List.mem_cons_of_mem _ hd)
      have q1 := raw_new (u := .lst [.str "chain", .str "reverse"]) hpa (upd_same (H := G) (a := pi) (o := .lst (List.take 1 (V.ref a0 :: xr))))
      refine ⟨S, d, n, 0, 2, rfl, al3, hd, k3, hn, by omega, by omega, by omega, fun tb H2 sb fb kb db lb1 lb2 hsb => ?_⟩
      walk_at "fl.w"
      have al4 := hS.fr ((fG.trans f3).trans fb) (.cons kb.hd .nil)
      refine ⟨S, d, n, 0, 2, rfl, al4, hd, kb, hn, by omega, by omega, by omega, fun ta H3 sa fa ka da la1 la2 hsa => ?_⟩
      have q2 := fa _ _ npi (fb _ _ npi q1)
      have q3 := fa _ _ na (fb _ _ na (f3 _ _ na ha0))
      have al5 := al4.fr fa (.cons ka.hd .nil)
      walk_at "fl.w"
      rename_i pb hpb
      have k6 := ka.newH (o := .lst [.str "single", .str "reverse"]) hpb
      have q4 := raw_new (u := .lst [.str "single", .str "reverse"]) hpb q3
      refine lcGl (S := S) PyData.int [d] (Dw d) (fun i rs => rs.length = i ∧ ∀ g, g ∈ rs → 0 ≤ g ∧ g < (n : Int)) (al5.newH hpb) one k6 ⟨rfl, fun _ m => nomatch m⟩ q4 na (by omega) (fun H k => .cons k.hd .nil) (fun D H o e k => k.put (k6.ned e)) ?_ ?_
      · intro D i x G1 rs hD hx hAl hkG _ hpr R N hR hN
        refine ⟨rfl, ?_⟩
        walk_at "fl.w"
        rename_i v2 G2 v02 v12 k2 o2
        exact hR _ _ v2 o2.fr k2 (.int _) ⟨by rw [List.length_append, hpr.1]; rfl, fun g m => by
          rcases List.mem_append.mp m with m | m
          · exact hpr.2 g m
          · rw [show g = v2 by simpa using m]
            exact ⟨v02, v12⟩⟩
      · intro D G1 rs f4 kG1 hD dD hl2 hpr
        walk_at "fl.w"
        have f5 := (fb.trans fa).trans ((Fr.new (o := .lst [.str "single", .str "reverse"]) hpb).trans f4)
        have f6 := fa.trans ((Fr.new (o := .lst [.str "single", .str "reverse"]) hpb).trans f4)
        have f7 := (Fr.new (S := [d]) (o := .lst [.str "single", .str "reverse"]) hpb).trans f4
        have dn : ∀ p, p ∉ S → G p = some (.lst []) → Dq S G1 (.ref p) (.list []) := fun p np rp => Dq.frd (f3.trans f5) hd (.lst np rp .nil)
        exact fin G1 pi tb ta D p2 _ ⟨[c0], sb, sa, rs, []⟩ ((fG.trans f3).trans f5) kG1 (Dq.frd f5 hd ((Dq.newL alG hpi (.cons dc0 .nil)).newH hpa)) (Dq.frd f6 hd db) (Dq.frd f7 hd da) dD (dn _ n2 r2)
          { om := fun h => (by first | exact absurd h (by decide +kernel) | (have := hpr.1; show rs.length ≤ 3; omega)), i := fun _ => rfl, i2 := fun h => absurd h (by decide +kernel), i3 := ⟨Nat.le_refl 1, by show (1 : Nat) ≤ 4; omega⟩, b := by show sb.length ≤ 3; omega, a := by show sa.length ≤ 3; omega, ba := fun h => absurd (.inr rfl) h, s := fun c m => by
              rcases List.mem_append.mp m with m | m
              · rcases List.mem_append.mp m with m | m
                · exact hsi c (by simp at m ⊢; exact .inl m)
                · exact hsb c m
              · exact hsa c m, o := by have := hpr.1; show rs.length ≤ 8; omega, og := hpr.2, oc := fun h => absurd h (by decide +kernel), os := fun _ l e => by cases e; have := hpr.1; show rs.length = c0.length; omega, ol := fun h => absurd h (by decide +kernel), c := fun _ => rfl, cu := fun i p e => by simp at e } (by assumption)
end

section
variable {P : Program} {w : World} {K : PySem.W.Frag} {mg : Str → Option Value} {base : Heap}
local macro_rules | `(tactic| walk_at "fl.t") => `(tactic| ((with_reducible refine g_inLs (b := false) (SqL.of upd_same) ?_ ?_ ?_ ?_); (focus rfl); (focus rfl); (focus rfl)))
local macro_rules | `(tactic| walk_at "fl.t") => `(tactic| ((with_reducible refine g_inLs (b := true) (SqL.of upd_same) ?_ ?_ ?_ ?_); (focus rfl); (focus rfl); (focus rfl)))
local macro_rules | `(tactic| walk_at "fl.t") => `(tactic| ((with_reducible apply tk_app); (focus first | assumption | (with_reducible exact Dw.newH (by assumption) (by assumption))); (focus first | assumption | omega); intro _ _ _ _ _ _))
local macro_rules | `(tactic| walk_at "fl.t") => `(tactic| ((with_reducible apply g_appB); (focus walk_at "fl.raw"); (focus first | assumption | walk_at "fl.cz")))
local macro_rules | `(tactic| walk_at "fl.t") => `(tactic| (with_reducible refine g_bm0 ?_))
local macro_rules | `(tactic| walk_at "fl.t") => `(tactic| (with_reducible refine g_breakS ?_))
local macro_rules | `(tactic| walk_at "fl.w") => `(tactic| repeat walk_at "fl.t")
theorem kind6 {v : Int} (h0 : 0 ≤ v) (h1 : v < 6) : ∃ kind : Str, kind ∈ kindsR ∧ atI [V.str "single", .str "multiple", .str "ligature", .str "chain", .str "reverse", .str "chain"] v = some (.str kind) := by
  rcases (by omega : v = 0 ∨ v = 1 ∨ v = 2 ∨ v = 3 ∨ v = 4 ∨ v = 5) with rfl | rfl | rfl | rfl | rfl | rfl
  · exact ⟨"single", by simp [kindsR], atI_nat (j := 0) rfl⟩
  · exact ⟨"multiple", by simp [kindsR], atI_nat (j := 1) rfl⟩
  · exact ⟨"ligature", by simp [kindsR], atI_nat (j := 2) rfl⟩
  · exact ⟨"chain", by simp [kindsR], atI_nat (j := 3) rfl⟩
  · exact ⟨"reverse", by simp [kindsR], atI_nat (j := 4) rfl⟩
  · exact ⟨"chain", by simp [kindsR], atI_nat (j := 5) rfl⟩
def Callee (ks : List Str) (x : Int) : Prop := 0 ≤ x ∧ ∃ k, ks[x.toNat]? = some k ∧ (k = "single" ∨ k = "multiple")
theorem RuD.ok {n : Nat} {kind : Str} {cl : List Int} {ks : List Str} {r : RuV} (h : RuD n kind cl r) (hc : ∀ x, x ∈ cl → Callee ks x) : r.Ok n ks kind :=
  ⟨h.i, h.i2, h.i3, h.b, h.a, h.ba, h.s, h.o, h.og, h.oc, h.os, h.ol, h.c, fun i p e => ⟨(h.cu i p e).1, (h.cu i p e).2.1, (hc _ (h.cu i p e).2.2).1, (hc _ (h.cu i p e).2.2).2⟩⟩
theorem ok_more {n : Nat} {kind : Str} {ks ms : List Str} {r : RuV} (h : r.Ok n ks kind) : r.Ok n (ks ++ ms) kind :=
  ⟨h.i, h.i2, h.i3, h.b, h.a, h.ba, h.s, h.o, h.og, h.oc, h.os, h.ol, h.c, fun i p e => ⟨(h.cu i p e).1, (h.cu i p e).2.1, (h.cu i p e).2.2.1, by
    obtain ⟨k, hk, d⟩ := (h.cu i p e).2.2.2
    exact ⟨k, by rw [List.getElem?_append_left (List.getElem?_eq_some_iff.mp hk).1]; exact hk, d⟩⟩⟩
def spLks : Sp := fun vs H Q _ => ∃ (S : List Addr) (d : Addr) (n : Nat), vs = [.ref d, .int (n : Int)] ∧ Al S H ∧ d ∈ S ∧ Dw d H ∧ 0 < n ∧ n ≤ 8 ∧
  ∀ t H' (ls : List LkV), Fl.Fr [d] H H' → Dw d H' → Dq S H' (.ref t) (.list (ls.map lkT)) → (1 ≤ ls.length ∧ ls.length ≤ 4) → (∀ k, k ∈ ls → k.Ok n (ls.map LkV.kind) ∧ k.rules.length ≤ 3 ∧ Out3 k) → Q (.ref t) H'
theorem ok_law_lookups (T : Txt K mg) : Has P w K mg base 5 "_law_lookups" ps_law_lookups spLks := by
  have h_law_take := ok_law_take (P := P) (w := w) (base := base) T
  have h_law_rule := ok_law_rule (P := P) (w := w) (base := base) T
  refine has_of T.d_law_lookups sc_law_lookups bd_law_lookups (fun vs H Q E h => ?_) (fun f cdv A outer s H vs Q E hr h => ?_)
  · obtain ⟨S, d, n, rfl, _⟩ := h
    rfl
  · obtain ⟨S, d, n, rfl, hS, hd, hk, hn, hn2, q⟩ := h
    refine ⟨_, (pss_cons (ps_set (i := 2) sc_law_lookups.nd rfl (.inr rfl) (pe_lst pa_nil))
      (pss_cons (ps_for PassesOwn.never rfl (pi_range1 (by rfl) T.z_range (pa_cons (pe_op op_add pe_int (pe_h h_law_take (hr.mono (by decide)) (pa_cons (pv 0) (pa_cons pe_int pa_nil)))) pa_nil)) (pg_name (i := 3) sc_law_lookups.nd rfl (.inl rfl))
        (pss_cons (ps_set (i := 4) sc_law_lookups.nd rfl (.inr rfl) (pe_ix (ixL (K := K) rfl) (pe_lst (pa_cons pe_str (pa_cons pe_str (pa_cons pe_str (pa_cons pe_str (pa_cons pe_str (pa_cons pe_str pa_nil))))))) (pe_h h_law_take (hr.mono (by decide)) (pa_cons (pv 0) (pa_cons pe_int pa_nil))) (fun _ _ => rfl)))
      (pss_cons (ps_set (i := 5) sc_law_lookups.nd rfl (.inr rfl) (pe_lc (own := [("k", 7)]) rfl sc_law_lookups.nd (pi_range1 (by rfl) T.z_range (pa_cons (pv 3) pa_nil)) (blkOk_by (by kernel_rfl)) (fun _ _ _ _ _ => (pg_name (i := 7) sc_law_lookups.nd rfl (.inl rfl))) (fun _ _ _ _ _ => (pts_one (pt_cmpR (opIn (K := K) rfl) (pe_ix (ixT (K := K) rfl) (pe_ix (ixL (K := K) rfl) (pv 2) (pv 7) (fun _ _ => rfl)) pe_int (fun _ _ => rfl)) (pe_lst (pa_cons pe_str (pa_cons pe_str pa_nil))) (by rfl)))) (fun _ _ _ _ _ => (pv 7))))
      (pss_cons (ps_setLc (i := 6) (own := [("k", 7)]) rfl sc_law_lookups.nd rfl rfl (sw_true rfl rfl rfl (by decide +kernel)) (pi_range1 (by rfl) T.z_range (pa_cons (pe_h h_law_take (hr.mono (by decide)) (pa_cons (pv 0) (pa_cons pe_int pa_nil))) pa_nil)) (blkOk_by (by kernel_rfl)) (fun _ _ _ _ _ => (pg_name (i := 7) sc_law_lookups.nd rfl (.inl rfl))) (fun _ _ _ _ _ => pts_nil) (fun _ _ _ _ _ => (pe_h h_law_rule (hr.mono (by decide)) (pa_cons (pv 0) (pa_cons (pv 4) (pa_cons (pv 1) (pa_cons (pv 5) pa_nil)))))))
      (pss_one (ps_expr (pe_bm PySem.F.plainAttrs_list PySem.F.slot_list_append PySem.F.type_list_append mt_append (pv 2) (pa_cons (pe_tup (pa_cons (pv 4) (pa_cons (pv 6) (pa_cons (pe_cmpR op_eq (pe_h h_law_take (hr.mono (by decide)) (pa_cons (pv 0) (pa_cons pe_int pa_nil))) pe_int (nomark _)) pa_nil)))) pa_nil))))))))
      (pss_one (ps_ret (pv 2))))), ?_⟩
    walk_at "fl.w"
    rename_i D hD v0 G0 a0 b0 k0 o0
    have hD0 : G0 D = some (.lst []) := o0.fr _ _ (fun m => hS.ni hD ((show D = d by simpa using m) ▸ hd)) upd_same
    generalize hN : (1 + v0).toNat = N
    have hN2 : 1 ≤ N ∧ N ≤ 4 := by omega
    have nDd : D ≠ d := fun e => hS.ni hD (e ▸ hd)
    have nD1 : D ∉ [d] := fun m => nDd (by simpa using m)
    have f0 : Fl.Fr [d] H G0 := (Fr.new hD).trans o0.fr
    have al0 : Al (D :: S) G0 := .cons (by rw [hD0]; simp) (hS.fr f0 (.cons k0.hd .nil))
    have hdS : d ∈ D :: S := List.mem_cons_of_mem _ hd
    have in2 : ∀ b, b ∈ [D, d] → b ∈ D :: S := fun b m => by
      rcases List.mem_cons.mp m with rfl | m
      · simp
      · exact List.mem_cons_of_mem _ ((show b = d by simpa using m) ▸ hd)
    have one : ∀ b, b ∈ [d] → b ∈ D :: S := fun b m => by rw [show b = d by simpa using m]; exact hdS
    have d2 : ∀ b, b ∈ [d] → b ∈ [D, d] := fun b m => List.mem_cons_of_mem _ m
    refine forK_r (fun i σ' G' => (∃ u3 u4 u5 u6, σ' = [some (.ref d), some (.int (n : Int)), some (.ref D), u3, u4, u5, u6, none]) ∧ Fl.Fr [D, d] G0 G' ∧ Dw d G' ∧ ∃ (acc : List V) (ls : List LkV), G' D = some (.lst acc) ∧ DqA (D :: S) G' acc (ls.map lkT) ∧ ls.length = i ∧ ∀ k, k ∈ ls → k.Ok n (ls.map LkV.kind) ∧ k.rules.length ≤ 3 ∧ Out3 k) ⟨⟨_, _, _, _, rfl⟩, Fr.refl, k0, [], [], hD0, .nil, rfl, fun _ m => nomatch m⟩ ?_ ?_
    · intro i σ' G1 hi ⟨⟨u3, u4, u5, u6, e⟩, f1, k1, acc, ls, ha, hd1, hl1, hu⟩
      subst e
      rw [Int.zero_add]
      have lacc := hd1.len
      rw [List.length_map] at lacc
      walk_at "fl.w"
      rename_i pk hpk v2 G2 v02 v12 k2 o2
      obtain ⟨kind, hkd, hat⟩ := kind6 v02 v12
      have f2 : Fl.Fr [d] G1 G2 := (Fr.new hpk).trans o2.fr
      refine g_ixL (SqL.of (o2.fr _ _ (fun m => k1.ned hpk (by simpa using m)) upd_same)) hat ?_
      walk_at "fl.w"
      rw [show ((i : Nat) : Int).toNat = i by omega]
      have al1 : Al (D :: S) G1 := al0.fr f1 (.cons (by rw [ha]; simp) (.cons k1.hd .nil))
      have al2 : Al (D :: S) G2 := al1.fr f2 (.cons k2.hd .nil)
      have ha2 : G2 D = some (.lst acc) := f2 _ _ nD1 ha
      have hd2 := hd1.fr (f2.mono one)
      refine lcGf (S := D :: S) PyData.int [] (fun _ => True) (fun _ rs => ∀ x, x ∈ rs → Callee (ls.map LkV.kind) x) al2 (fun _ m => nomatch m) trivial (fun _ m => nomatch m) (by omega) (fun _ _ => .nil) (fun _ _ _ _ _ => trivial) ?_ ?_
      · intro B j G3 rs hB hj hAl _ f3 hpr R N' hR hN'
        refine ⟨rfl, ?_⟩
        obtain ⟨lk, hlk⟩ : ∃ lk, ls[j]? = some lk := ⟨_, List.getElem?_eq_getElem (by omega)⟩
        have nDB : D ∉ [B] := fun m => by rw [show D = B by simpa using m, hB] at ha2; cases ha2
        obtain ⟨xv, hxv, hxD⟩ := hd2.getD (i := j) (d := lkT lk) (by rw [List.getElem?_map, hlk]; rfl)
        unfold lkT at hxD
        obtain ⟨t, zr, rfl, nt, ht, hZ⟩ := hxD.tupE
        obtain ⟨_, zr, rfl, hz1, hZ⟩ := hZ.consE
        cases hz1
        have ntB : t ∉ [B] := fun m => by rw [show t = B by simpa using m, hB] at ht; cases ht
        have ht3 := f3 _ _ ntB ht
        have ha3 := f3 _ _ nDB ha2
        rw [Int.zero_add]
        walk_at "fl.w"
        refine g_ixL (SqL.of ha3) (atI_nat (j := j) hxv) ?_
        walk_at "fl.w"
        refine g_ixT (SqT.of ht3) (atI_nat (j := 0) rfl) ?_
        walk_at "fl.w"
        rename_i pq hpq
        have hk3 := (hu lk (List.mem_of_getElem? hlk)).1.k
        simp only [kindsR, List.mem_cons, List.not_mem_nil, or_false] at hk3
        rcases Decidable.em (lk.kind = "single" ∨ lk.kind = "multiple") with hc | hc
        · refine g_inLs (b := true) (SqL.of upd_same) rfl rfl (by rcases hc with h | h <;> rw [h] <;> rfl) ?_
          walk_at "fl.w"
          refine hR _ _ (j : Int) (Fr.new hpq) trivial (.int _) fun x m => ?_
          rcases List.mem_append.mp m with m | m
          · exact hpr x m
          · rw [show x = (j : Int) by simpa using m]
            exact ⟨by omega, lk.kind, by rw [Int.toNat_natCast, List.getElem?_map, hlk]; rfl, hc⟩
        · have hno : inV (.str lk.kind) [.str "single", .str "multiple"] = false := by
            rcases hk3 with h | h | h | h | h
            · exact absurd (Or.inl h) hc
            · exact absurd (Or.inr h) hc
            all_goals
              rw [h]
              rfl
          refine g_inLs (b := false) (SqL.of upd_same) rfl rfl hno ?_
          walk_at "fl.w"
          exact hN' _ (Fr.new hpq) trivial hpr
      · intro B G3 rs f3 _ hB dB hlB hprB
        have k3 := k2.sm f3.sm
        walk_at "fl.w"
        rename_i v3 G4 v03 v13 k4 o4
        have f4 : Fl.Fr [d] G2 G4 := (f3.mono (fun _ m => nomatch m)).trans o4.fr
        have al4 := al2.fr f4 (.cons k4.hd .nil)
        have dB4 := dB.fr (o4.fr.mono one)
        generalize hM : v3.toNat = M
        have hM2 : M ≤ 3 := by omega
        refine lcGf (S := D :: S) ruT [d] (Dw d) (fun i rr => rr.length = i ∧ ∀ r, r ∈ rr → RuD n kind rs r) al4 one k4 ⟨rfl, fun _ m => nomatch m⟩ (by omega) (fun H k => .cons k.hd .nil) (fun D H o e k => k.put (k4.ned e)) ?_ ?_
        · intro B2 j G5 rr hB2 hj hAl hk5 f5 hpr R N' hR hN'
          refine ⟨rfl, ?_⟩
          walk_at "fl.w"
          refine ⟨B2 :: D :: S, d, B, n, kind, rs, rfl, hAl, List.mem_cons_of_mem _ hdS, hk5, (dB4.new hB2).fr (f5.mono ?_), by omega, hn, hn2, hkd, fun t H' r f k dq hc => hR _ _ r f k dq ⟨by rw [List.length_append, hpr.1]; rfl, fun r' m => ?_⟩⟩
          · intro b m
            rcases List.mem_cons.mp m with rfl | m
            · simp
            · exact List.mem_cons_of_mem _ (one b m)
          · rcases List.mem_append.mp m with m | m
            · exact hpr.2 r' m
            · rw [show r' = r by simpa using m]
              exact hc
        · intro B2 G5 rr f5 k5 hB2 dB2 hl2 hpr2
          have ha5 := f5 _ _ nD1 (f4 _ _ nD1 ha2)
          walk_at "fl.w"
          rename_i v5 G6 _ _ k6 o6 pt hpt
          have f7 := f4.trans (f5.trans o6.fr)
          have al6 := al2.fr f7 (.cons k6.hd .nil)
          refine ⟨⟨_, _, _, _, rfl⟩, f1.trans ((f2.mono d2).trans ((f7.mono d2).trans ((Fr.new hpt).trans (Fr.upd (by simp))))), (k6.newH hpt).put nDd, acc ++ [.ref pt], ls ++ [⟨kind, rr, decide (v5 = 1)⟩], upd_same, ?_, ?_, ?_⟩
          · rw [List.map_append]
            exact ((hd2.fr ((f7.mono one).trans (Fr.new hpt))).app (.one (.newT al6 hpt (.cons (.str _) (.cons (dB2.fr (o6.fr.mono one)) (.cons (.bl _) .nil)))))).fr (Fr.upd (by simp))
          · rw [List.length_append, hl1]
            rfl
          · intro k m
            rw [List.map_append]
            rcases List.mem_append.mp m with m | m
            · exact ⟨⟨(hu k m).1.k, (hu k m).1.r, fun r mr => ok_more ((hu k m).1.ro r mr)⟩, (hu k m).2⟩
            · rw [show k = ⟨kind, rr, decide (v5 = 1)⟩ by simpa using m]
              exact ⟨⟨hkd, by show rr.length ≤ 12; omega, fun r mr => ok_more ((hpr2.2 r mr).ok hprB)⟩, (by show rr.length ≤ 3; omega), fun hm r mr => (hpr2.2 r mr).om hm⟩
    · intro σ' G1 ⟨⟨u3, u4, u5, u6, e⟩, f1, k1, acc, ls, ha, hd1, hl1, hu⟩
      subst e
      walk_at "fl.w"
      exact q D G1 ls (fun b o m e => f1 b o (fun m2 => by
        rcases List.mem_cons.mp m2 with rfl | m2
        · rw [hD] at e; cases e
        · exact m m2) (f0 b o m e)) k1 (.lst (hS.ni hD) ha hd1.tail) (by omega) hu
end

section
/-- the law's own world of a font -/
def woD (f : FoV) : PyData := .tuple [.int f.glyphs.length, .list ((f.glyphs.map GlV.mark).map .bool), .list ((f.glyphs.map GlV.adv).map .int), .list (f.lks.map lkT)]
end
section
variable {P : Program} {w : World} {K : PySem.W.Frag} {mg : Str → Option Value} {base : Heap}
local macro_rules | `(tactic| walk_at "fl.t") => `(tactic| ((with_reducible apply tk_app); (focus first | assumption | (with_reducible exact Dw.newH (by assumption) (by assumption))); (focus first | assumption | omega); intro _ _ _ _ _ _))
local macro_rules | `(tactic| walk_at "fl.t") => `(tactic| ((with_reducible apply g_appB); (focus walk_at "fl.raw"); (focus first | assumption | walk_at "fl.cz")))
local macro_rules | `(tactic| walk_at "fl.t") => `(tactic| (with_reducible refine g_bm0 ?_))
local macro_rules | `(tactic| walk_at "fl.t") => `(tactic| (with_reducible refine g_breakS ?_))
local macro_rules | `(tactic| walk_at "fl.w") => `(tactic| repeat walk_at "fl.t")
theorem glyphs_of : ∀ (ms : List Bool) (as : List Int), ms.length = as.length → ∃ gs : List GlV, gs.map GlV.mark = ms ∧ gs.map GlV.adv = as
  | [], [], _ => ⟨[], rfl, rfl⟩
  | [], _ :: _, h => by simp at h
  | _ :: _, [], h => by simp at h
  | m :: ms, a :: as, h => by
    obtain ⟨gs, h1, h2⟩ := glyphs_of ms as (by simpa using h)
    exact ⟨{ adv := a, mark := m } :: gs, by rw [List.map_cons, h1], by rw [List.map_cons, h2]⟩
def spWld : Sp := fun vs H Q _ => ∃ (S : List Addr) (d : Addr), vs = [.ref d] ∧ Al S H ∧ d ∈ S ∧ Dw d H ∧
  ∀ t H' (f : FoV), Fl.Fr [d] H H' → Dw d H' → Dq S H' (.ref t) (woD f) → f.Ok → (2 ≤ f.glyphs.length ∧ f.glyphs.length ≤ 5) → (∀ k, k ∈ f.lks → k.rules.length ≤ 3 ∧ Out3 k) → (1 ≤ f.lks.length ∧ f.lks.length ≤ 4) → Q (.ref t) H'
theorem ok_law_world (T : Txt K mg) : Has P w K mg base 6 "_law_world" ps_law_world spWld := by
  have h_law_take := ok_law_take (P := P) (w := w) (base := base) T
  have h_law_lookups := ok_law_lookups (P := P) (w := w) (base := base) T
  refine has_of T.d_law_world sc_law_world bd_law_world (fun vs H Q E h => ?_) (fun f cdv A outer s H vs Q E hr h => ?_)
  · obtain ⟨S, d, rfl, _⟩ := h
    rfl
  · obtain ⟨S, d, rfl, hS, hd, hk, q⟩ := h
    refine ⟨_, (pss_cons (ps_set (i := 1) sc_law_world.nd rfl (.inl rfl) (pe_op op_add pe_int (pe_h h_law_take (hr.mono (by decide)) (pa_cons (pv 0) (pa_cons pe_int pa_nil)))))
      (pss_cons (ps_setLc (i := 2) (own := [("k", 5)]) rfl sc_law_world.nd rfl rfl (sw_true rfl rfl rfl (by decide +kernel)) (pi_range1 (by rfl) T.z_range (pa_cons (pv 1) pa_nil)) (blkOk_by (by kernel_rfl)) (fun _ _ _ _ _ => (pg_name (i := 5) sc_law_world.nd rfl (.inl rfl))) (fun _ _ _ _ _ => pts_nil) (fun _ _ _ _ _ => (pe_cmpR op_eq (pe_h h_law_take (hr.mono (by decide)) (pa_cons (pv 0) (pa_cons pe_int pa_nil))) pe_int (nomark _))))
      (pss_cons (ps_setLc (i := 3) (own := [("k", 5)]) rfl sc_law_world.nd rfl rfl (sw_true rfl rfl rfl (by decide +kernel)) (pi_range1 (by rfl) T.z_range (pa_cons (pv 1) pa_nil)) (blkOk_by (by kernel_rfl)) (fun _ _ _ _ _ => (pg_name (i := 5) sc_law_world.nd rfl (.inl rfl))) (fun _ _ _ _ _ => pts_nil) (fun _ _ _ _ _ => (pe_op op_mul pe_int (pe_h h_law_take (hr.mono (by decide)) (pa_cons (pv 0) (pa_cons pe_int pa_nil))))))
      (pss_cons (ps_set (i := 4) sc_law_world.nd rfl (.inl rfl) (pe_h h_law_lookups (hr.mono (by decide)) (pa_cons (pv 0) (pa_cons (pv 1) pa_nil))))
      (pss_one (ps_ret (pe_tup (pa_cons (pv 1) (pa_cons (pv 2) (pa_cons (pv 3) (pa_cons (pv 4) pa_nil))))))))))), ?_⟩
    have one : ∀ b, b ∈ [d] → b ∈ S := fun b m => by rw [show b = d by simpa using m]; exact hd
    walk_at "fl.w"
    rename_i v0 G0 a0 b0 k0 o0
    obtain ⟨n, hn⟩ : ∃ n : Nat, 2 + v0 = (n : Int) := ⟨(2 + v0).toNat, by omega⟩
    have hn2 : 2 ≤ n ∧ n ≤ 5 := by omega
    rw [hn]
    walk_at "fl.w"
    rw [show ((n : Nat) : Int).toNat = n by omega]
    have al0 := hS.fr o0.fr (.cons k0.hd .nil)
    refine lcGf (S := S) PyData.bool [d] (Dw d) (fun i rs => rs.length = i) al0 one k0 rfl (by omega) (fun H k => .cons k.hd .nil) (fun D H o e k => k.put (k0.ned e)) ?_ ?_
    · intro D i G1 rs hD hi hAl hkG _ hpr R N hR hN
      refine ⟨rfl, ?_⟩
      walk_at "fl.w"
      rename_i v2 G2 v02 v12 k2 o2
      exact hR _ _ _ o2.fr k2 (.bl _) (by rw [List.length_append, hpr]; rfl)
    · intro D1 G1 ms f1 k1 hD1 dD1 hl1 hpr1
      walk_at "fl.w"
      rw [show ((n : Nat) : Int).toNat = n by omega]
      have al1 := al0.fr f1 (.cons k1.hd .nil)
      refine lcGf (S := S) PyData.int [d] (Dw d) (fun i rs => rs.length = i ∧ ∀ a, a ∈ rs → 0 ≤ a ∧ a ≤ 16384) al1 one k1 ⟨rfl, fun _ m => nomatch m⟩ (by omega) (fun H k => .cons k.hd .nil) (fun D H o e k => k.put (k1.ned e)) ?_ ?_
      · intro D i G1 rs hD hi hAl hkG _ hpr R N hR hN
        refine ⟨rfl, ?_⟩
        walk_at "fl.w"
        rename_i v2 G2 v02 v12 k2 o2
        refine hR _ _ _ o2.fr k2 (.int _) ⟨by rw [List.length_append, hpr.1]; rfl, fun a m => ?_⟩
        rcases List.mem_append.mp m with m | m
        · exact hpr.2 a m
        · rw [show a = 10 * v2 by simpa using m]
          omega
      · intro D2 G2 as f2 k2 hD2 dD2 hl2 hpr2
        walk_at "fl.w"
        have al2 := al1.fr f2 (.cons k2.hd .nil)
        refine ⟨S, d, n, rfl, al2, hd, k2, by omega, by omega, fun t3 G3 ls f3 k3 d3 hl3 ho3 => ?_⟩
        walk_at "fl.w"
        rename_i pt hpt
        obtain ⟨gs, hg1, hg2⟩ := glyphs_of ms as (by omega)
        have hgl : gs.length = n := by have := congrArg List.length hg1; rw [List.length_map] at this; omega
        have al3 := al2.fr f3 (.cons k3.hd .nil)
        refine q pt _ ⟨gs, ls⟩ (((o0.fr.trans f1).trans (f2.trans f3)).trans (Fr.new hpt)) (k3.newH hpt) (.newT al3 hpt (.cons ?_ (.cons ?_ (.cons ?_ (.cons d3 .nil))))) ⟨?_, ?_, ?_, ?_⟩ ?_ ?_ hl3
        · show Dq S G3 (.int (n : Int)) (.int (gs.length : Int))
          rw [hgl]
          exact .int _
        · rw [hg1]
          exact Dq.frd (f2.trans f3) hd dD1
        · rw [hg2]
          exact Dq.frd f3 hd dD2
        · show 1 ≤ gs.length ∧ gs.length ≤ 60
          omega
        · intro g m
          have : g.adv ∈ as := by rw [← hg2]; exact List.mem_map_of_mem m
          exact hpr2.2 _ this
        · show ls.length ≤ 20
          omega
        · intro k m
          show k.Ok gs.length (ls.map LkV.kind)
          rw [hgl]
          exact (ho3 k m).1
        · show 2 ≤ gs.length ∧ gs.length ≤ 5
          omega
        · intro k m
          exact (ho3 k m).2
def spRun : Sp := fun vs H Q _ => ∃ (S : List Addr) (d aa : Addr) (f : FoV), vs = [.ref d, .int (f.glyphs.length : Int), .ref aa] ∧ Al S H ∧ d ∈ S ∧ Dw d H ∧ Dq S H (.ref aa) (.list ((f.glyphs.map GlV.adv).map .int)) ∧ 0 < f.glyphs.length ∧
  ∀ t H' (run : List ItV), Fl.Fr [d] H H' → Dw d H' → Dq S H' (.ref t) (ruD run) → RunOk f run → run.length ≤ 7 → Q (.ref t) H'
theorem ok_law_run (T : Txt K mg) : Has P w K mg base 2 "_law_run" ps_law_run spRun := by
  have h_law_take := ok_law_take (P := P) (w := w) (base := base) T
  refine has_of T.d_law_run sc_law_run bd_law_run (fun vs H Q E h => ?_) (fun f cdv A outer s H vs Q E hr h => ?_)
  · obtain ⟨S, d, aa, fo, rfl, _⟩ := h
    rfl
  · obtain ⟨S, d, aa, fo, rfl, hS, hd, hk, hda, hn, q⟩ := h
    refine ⟨_, (pss_cons (ps_set (i := 3) sc_law_run.nd rfl (.inl rfl) (pe_lst pa_nil))
      (pss_cons (ps_set (i := 4) sc_law_run.nd rfl (.inl rfl) pe_int)
      (pss_cons (ps_for PassesOwn.never rfl (pi_range1 (by rfl) T.z_range (pa_cons (pe_h h_law_take (hr.mono (by decide)) (pa_cons (pv 0) (pa_cons pe_int pa_nil))) pa_nil)) (pg_name (i := 5) sc_law_run.nd rfl (.inl rfl))
        (pss_cons (ps_set (i := 4) sc_law_run.nd rfl (.inl rfl) (pe_op op_add (pv 4) (pe_h h_law_take (hr.mono (by decide)) (pa_cons (pv 0) (pa_cons pe_int pa_nil)))))
      (pss_cons (ps_set (i := 6) sc_law_run.nd rfl (.inl rfl) (pe_h h_law_take (hr.mono (by decide)) (pa_cons (pv 0) (pa_cons (pv 1) pa_nil))))
      (pss_one (ps_expr (pe_bm PySem.F.plainAttrs_list PySem.F.slot_list_append PySem.F.type_list_append mt_append (pv 3) (pa_cons (pe_tup (pa_cons (pv 6) (pa_cons (pv 4) (pa_cons (pe_h h_law_take (hr.mono (by decide)) (pa_cons (pv 0) (pa_cons pe_int pa_nil))) (pa_cons (pe_ix (ixL (K := K) rfl) (pv 2) (pv 6) (fun _ _ => rfl)) (pa_cons (pe_h h_law_take (hr.mono (by decide)) (pa_cons (pv 0) (pa_cons pe_int pa_nil))) (pa_cons pe_int pa_nil))))))) pa_nil)))))))
      (pss_one (ps_ret (pv 3)))))), ?_⟩
    walk_at "fl.w"
    rename_i D hD v0 G0 a0 b0 k0 o0
    have hD0 : G0 D = some (.lst []) := o0.fr _ _ (fun m => hS.ni hD ((show D = d by simpa using m) ▸ hd)) upd_same
    generalize hN : v0.toNat = N
    have hN2 : N ≤ 7 := by omega
    have nDd : D ≠ d := fun e => hS.ni hD (e ▸ hd)
    have nD1 : D ∉ [d] := fun m => nDd (by simpa using m)
    have f0 : Fl.Fr [d] H G0 := (Fr.new hD).trans o0.fr
    have al0 : Al (D :: S) G0 := .cons (by rw [hD0]; simp) (hS.fr f0 (.cons k0.hd .nil))
    have hdS : d ∈ D :: S := List.mem_cons_of_mem _ hd
    have in2 : ∀ b, b ∈ [D, d] → b ∈ D :: S := fun b m => by
      rcases List.mem_cons.mp m with rfl | m
      · simp
      · exact List.mem_cons_of_mem _ ((show b = d by simpa using m) ▸ hd)
    have one : ∀ b, b ∈ [d] → b ∈ D :: S := fun b m => by rw [show b = d by simpa using m]; exact hdS
    have d2 : ∀ b, b ∈ [d] → b ∈ [D, d] := fun b m => List.mem_cons_of_mem _ m
    have dA := Dq.frd f0 hd hda
    have dA0 : Dq (D :: S) G0 (.ref aa) (.list ((fo.glyphs.map GlV.adv).map .int)) := Dq.frd o0.fr hdS ((hda.new hD).newH hD)
    obtain ⟨_, zs, ee, naa, haa, hA⟩ := dA0.lstE
    cases ee
    have naa2 : aa ∉ [D, d] := fun m => naa (in2 _ m)
    have naa1 : aa ∉ [d] := fun m => naa2 (d2 _ m)
    refine forK_r (fun i σ' G' => (∃ (c : Int) (u5 u6 : Option V), σ' = [some (.ref d), some (.int (fo.glyphs.length : Int)), some (.ref aa), some (.ref D), some (.int c), u5, u6]) ∧ Fl.Fr [D, d] G0 G' ∧ Dw d G' ∧ ∃ (acc : List V) (run : List ItV), G' D = some (.lst acc) ∧ DqA (D :: S) G' acc (run.map ItV.D) ∧ run.length = i ∧ ∀ it, it ∈ run → it.g < fo.glyphs.length) ⟨⟨_, _, _, rfl⟩, Fr.refl, k0, [], [], hD0, .nil, rfl, fun _ m => nomatch m⟩ ?_ ?_
    · intro i σ' G1 hi ⟨⟨c, u5, u6, e⟩, f1, k1, acc, run, ha, hd1, hl1, hu⟩
      subst e
      have lacc := hd1.len
      rw [List.length_map] at lacc
      have hal : acc.length < 100000 := by omega
      walk_at "fl.w"
      rename_i v1 G2 v10 v11 k2 o2 v2 G3 v20 v21 k3 o3 v3 G4 v30 v31 k4 o4
      obtain ⟨g, rfl⟩ : ∃ g : Nat, v2 = (g : Int) := ⟨v2.toNat, by omega⟩
      obtain ⟨gl, hgl⟩ : ∃ gl, fo.glyphs[g]? = some gl := ⟨_, List.getElem?_eq_getElem (by omega)⟩
      obtain ⟨xv, hxv, hxD⟩ := hA.getD (i := g) (d := .int gl.adv) (by rw [List.getElem?_map, List.getElem?_map, hgl]; rfl)
      cases hxD.intE
      have haa4 := o4.fr _ _ naa1 (o3.fr _ _ naa1 (o2.fr _ _ naa1 (f1 _ _ naa2 haa)))
      have ha4 := o4.fr _ _ nD1 (o3.fr _ _ nD1 (o2.fr _ _ nD1 ha))
      refine g_ixL (SqL.of haa4) (atI_nat (j := g) hxv) ?_
      walk_at "fl.w"
      rename_i v5 G5 _ _ k5 o5 pt hpt
      have f2 := o2.fr.trans (o3.fr.trans (o4.fr.trans o5.fr))
      have al1 : Al (D :: S) G1 := al0.fr f1 (.cons (by rw [ha]; simp) (.cons k1.hd .nil))
      have al5 := al1.fr f2 (.cons k5.hd .nil)
      refine ⟨⟨_, _, _, rfl⟩, f1.trans ((f2.mono d2).trans ((Fr.new hpt).trans (Fr.upd (by simp)))), (k5.newH hpt).put nDd, acc ++ [.ref pt], run ++ [⟨g, c + v1, v3, gl.adv, v5, 0⟩], upd_same, ?_, ?_, ?_⟩
      · rw [List.map_append]
        exact ((hd1.fr ((f2.mono one).trans (Fr.new hpt))).app (.one (.newT al5 hpt (.cons (.int _) (.cons (.int _) (.cons (.int _) (.cons (.int _) (.cons (.int _) (.cons (.int _) .nil))))))))).fr (Fr.upd (by simp))
      · rw [List.length_append, hl1]
        rfl
      · intro it m
        rcases List.mem_append.mp m with m | m
        · exact hu it m
        · rw [show it = ⟨g, c + v1, v3, gl.adv, v5, 0⟩ by simpa using m]
          show g < fo.glyphs.length
          omega
    · intro σ' G1 ⟨⟨c, u5, u6, e⟩, f1, k1, acc, run, ha, hd1, hl1, hu⟩
      subst e
      walk_at "fl.w"
      exact q D G1 run (fun b o m e => f1 b o (fun m2 => by
        rcases List.mem_cons.mp m2 with rfl | m2
        · rw [hD] at e; cases e
        · exact m m2) (f0 b o m e)) k1 (.lst (hS.ni hD) ha hd1.tail) ⟨hu, by omega⟩ (by omega)
end

section
variable {P : Program} {w : World} {K : PySem.W.Frag} {mg : Str → Option Value} {base : Heap}
theorem tw_take {α : Type} {l : List α} {i : Nat} {x : α} (h : l[i]? = some x) : twL (l.take (i + 1)) = twL (l.take i) ++ [x, x] := by
  rw [List.take_add_one, h]
  unfold twL
  rw [List.flatMap_append]
  rfl
def fTw (ds : List PyData) (d : PyData) : Prop := ∃ rs : List RuV, ds = [.list (rs.map ruT)] ∧ rs.length ≤ 12 ∧ d = .list ((twL rs).map ruT)
theorem ok_law_twice (T : Txt K mg) : Has P w K mg base 1 "_law_twice" ps_law_twice (spD fTw) := by
  refine has_of T.d_law_twice sc_law_twice bd_law_twice (fun vs H Q E h => ?_) (fun f cdv A outer s H vs Q E hr h => ?_)
  · obtain ⟨S, ds, d, _, hd, ⟨rs, rfl, _⟩, _⟩ := h
    rw [hd.len]
    rfl
  · obtain ⟨S, ds, d, hS, hd, ⟨rs, rfl, hl, rfl⟩, q⟩ := h
    obtain ⟨v1, _, rfl, h1, hd⟩ := hd.consE
    cases hd.nilE
    obtain ⟨ra, xs, rfl, nra, hra, hX⟩ := h1.lstE
    have hxl : xs.length = rs.length := by rw [hX.len, List.length_map]
    refine ⟨_, (pss_cons (ps_set (i := 1) sc_law_twice.nd rfl (.inl rfl) (pe_lst pa_nil))
      (pss_cons (ps_for PassesOwn.never rfl (piL (K := K) rfl (pv 0)) (pg_name (i := 2) sc_law_twice.nd rfl (.inl rfl))
        (pss_one (ps_set (i := 1) sc_law_twice.nd rfl (.inl rfl) (pe_op op_cat (pv 1) (pe_lst (pa_cons (pv 2) (pa_cons (pv 2) pa_nil)))))))
      (pss_one (ps_ret (pv 1))))), ?_⟩
    walk_at "fl.w"
    rename_i p0 hp0
    have s0 : Same H (upd H p0 (.lst [])) := Fl.Same.new hp0
    have r0 : upd H p0 (.lst []) p0 = some (.lst []) := upd_same
    have hra0 := s0 _ _ hra
    generalize upd H p0 (.lst []) = G at s0 r0 hra0 ⊢
    refine forK_l (xs := xs) (fun i σ' H' => (∃ u, ∃ (pa : Addr) (ys : List V), σ' = [some (.ref ra), some (.ref pa), u] ∧ pa ∉ S ∧ H' pa = some (.lst ys) ∧ DqA S H' ys ((twL (rs.take i)).map ruT)) ∧ Same H H') ⟨⟨_, p0, [], rfl, hS.ni hp0, r0, .nil⟩, s0⟩ ?_ ?_ ?_
    · intro i σ' H' _ ⟨_, sm⟩
      exact SqL.of (sm _ _ hra)
    · intro i x σ' H' hx ⟨⟨u, pa, ys, e, npa, hpa, dy⟩, sm⟩
      subst e
      obtain ⟨r, hr2, hxr⟩ := hX.getM hx
      have hil := (List.getElem?_eq_some_iff.mp hr2).1
      have lys : ys.length = 2 * i := by
        rw [dy.len, List.length_map, twL_len, List.length_take]
        omega
      walk_at "fl.w"
      rename_i p1 hp1 p2 hp2
      have s1 : Same H' (upd (upd H' p1 (.lst [x, x])) p2 (.lst (ys ++ [x, x]))) := (Fl.Same.new hp1).trans (Fl.Same.new hp2)
      have al1 := (hS.same sm).newH (u := .lst [x, x]) hp1
      refine ⟨⟨_, p2, _, rfl, al1.ni hp2, upd_same, ?_⟩, sm.trans s1⟩
      rw [tw_take hr2, List.map_append]
      have dx := hxr.same (sm.trans s1)
      exact (dy.same s1).app (.cons dx (.cons dx .nil))
    · intro σ' H' ⟨⟨u, pa, ys, e, npa, hpa, dy⟩, sm⟩
      subst e
      rw [hxl, List.take_length] at dy
      walk_at "fl.w"
      exact q _ _ sm (.lst npa hpa dy)
theorem fm_take {α : Type} (f : α → List Int) {l : List α} {i : Nat} {x : α} (h : l[i]? = some x) : (l.take (i + 1)).flatMap f = (l.take i).flatMap f ++ f x := by
  rw [List.take_add_one, h, List.flatMap_append]
  simp
theorem fm_len {α : Type} {f : α → List Int} {B : Nat} : ∀ {l : List α}, (∀ x, x ∈ l → (f x).length ≤ B) → (l.flatMap f).length ≤ l.length * B
  | [], _ => by simp
  | a :: l, h => by
    have h1 := h a List.mem_cons_self
    have h2 := fm_len (l := l) fun x m => h x (List.mem_cons_of_mem _ m)
    rw [List.flatMap_cons, List.length_append, List.length_cons, Nat.add_mul, Nat.one_mul]
    omega
/-- numbers at an address -/
structure NuA (S : List Addr) (H : Hp) (p : Addr) (ns : List Int) : Prop where
  at_ : H p = some (.lst (ns.map V.int))
  ni : p ∉ S
theorem putC_len {f : FoV} (fok : f.Ok) (f3 : ∀ k, k ∈ f.lks → k.rules.length ≤ 3) (c : Int × Int) : (putC f c).length ≤ 24 := by
  unfold putC
  split
  · simp
  · rename_i k hk
    have h1 := f3 k (List.mem_of_getElem? hk)
    have h2 := fm_len (l := k.rules) (f := RuV.out) (B := 8) fun r m => ((fok.lo k (List.mem_of_getElem? hk)).ro r m).o
    omega
def fPu (ds : List PyData) (d : PyData) : Prop := ∃ (f : FoV) (l : Nat) (k : LkV), ds = [woD f, .int l] ∧ f.Ok ∧ (∀ k, k ∈ f.lks → k.rules.length ≤ 3) ∧ f.lks[l]? = some k ∧ d = .list ((putsV f k).map .int)
theorem calls_le {n : Nat} {ks : List Str} {kind : Str} {r : RuV} (h : RuV.Ok n ks kind r) : r.calls.length ≤ 8 := by
  rcases Nat.eq_zero_or_pos r.calls.length with z | z
  · omega
  · obtain ⟨p, hp⟩ : ∃ p, r.calls[r.calls.length - 1]? = some p := ⟨_, List.getElem?_eq_getElem (by omega)⟩
    have h1 := prv_ge (l := r.calls.map Prod.fst) (fun i g e => by
      rw [List.getElem?_map] at e
      cases hc : r.calls[i]? with
      | none => rw [hc] at e; cases e
      | some p => rw [hc] at e; cases e; exact (h.cu i p hc).1) (r.calls.length - 1) p.1 (by rw [List.getElem?_map, hp]; rfl)
    have h2 := (h.cu _ p hp).2.1
    have h3 := h.i3.2
    omega
theorem putR_len {f : FoV} (fok : f.Ok) (f3 : ∀ k, k ∈ f.lks → k.rules.length ≤ 3) {r : RuV} {n : Nat} {ks : List Str} {kind : Str} (h : RuV.Ok n ks kind r) : (putR f r).length ≤ 200 := by
  unfold putR
  rw [List.length_append]
  have h1 := h.o
  have h2 := fm_len (l := r.calls) (f := putC f) (B := 24) fun c _ => putC_len fok f3 c
  have h3 := calls_le h
  omega
theorem ok_law_puts (T : Txt K mg) : Has P w K mg base 1 "_law_puts" ps_law_puts (spD fPu) := by
  refine has_of T.d_law_puts sc_law_puts bd_law_puts (fun vs H Q E h => ?_) (fun f cdv A outer s H vs Q E hr h => ?_)
  · obtain ⟨S, ds, d, _, hd, ⟨f, l, k, rfl, _⟩, _⟩ := h
    rw [hd.len]
    rfl
  · obtain ⟨S, ds, d, hS, hd, ⟨fo, l, k, rfl, fok, f3, hk, rfl⟩, q⟩ := h
    obtain ⟨v1, _, rfl, h1, hd⟩ := hd.consE
    obtain ⟨v2, _, rfl, h2, hd⟩ := hd.consE
    cases hd.nilE
    cases h2.intE
    obtain ⟨wa, ws, rfl, _, hwa, hW⟩ := h1.tupE
    obtain ⟨x1, ws, rfl, hx1, hW⟩ := hW.consE
    obtain ⟨x2, ws, rfl, hx2, hW⟩ := hW.consE
    obtain ⟨x3, ws, rfl, hx3, hW⟩ := hW.consE
    obtain ⟨x4, ws, rfl, hx4, hW⟩ := hW.consE
    cases hW.nilE
    obtain ⟨la, ls, rfl, _, hla, hL⟩ := hx4.lstE
    have lkAt : ∀ (j : Nat) (k : LkV), fo.lks[j]? = some k → ∃ (ka ra : Addr) (rs : List V), atI ls (j : Int) = some (.ref ka) ∧ H ka = some (.tup [.str k.kind, .ref ra, .bl k.ign]) ∧ H ra = some (.lst rs) ∧ DqA S H rs (k.rules.map ruT) := fun j k hk => by
      obtain ⟨kv, hkv, hkD⟩ := hL.getD (i := j) (d := lkT k) (by rw [List.getElem?_map, hk]; rfl)
      obtain ⟨ka, kz, rfl, _, hka, hKD⟩ := hkD.tupE
      obtain ⟨y1, kz, rfl, hy1, hKD⟩ := hKD.consE
      obtain ⟨y2, kz, rfl, hy2, hKD⟩ := hKD.consE
      obtain ⟨y3, kz, rfl, hy3, hKD⟩ := hKD.consE
      cases hKD.nilE
      cases hy1
      cases hy3.blE
      obtain ⟨ra, rs, rfl, _, hra, hR⟩ := hy2.lstE
      exact ⟨ka, ra, rs, atI_nat hkv, hka, hra, hR⟩
    have ruAt : ∀ (rs : List V) (L : List RuV), DqA S H rs (L.map ruT) → ∀ (j : Nat) (x : V), rs[j]? = some x → ∃ (r : RuV) (ta oa ca : Addr) (z1 z2 z3 : V) (cs' : List V), L[j]? = some r ∧ x = .ref ta ∧ H ta = some (.tup [z1, z2, z3, .ref oa, .ref ca]) ∧ H oa = some (.lst (r.out.map V.int)) ∧ H ca = some (.lst cs') ∧ DqA S H cs' (r.calls.map fun p : Int × Int => PyData.tuple [.int p.1, .int p.2]) := fun rs L hR j x hx => by
      obtain ⟨r, hr2, hxr⟩ := hR.getM hx
      obtain ⟨ta, tz, rfl, _, hta, hT⟩ := hxr.tupE
      obtain ⟨z1, tz, rfl, hz1, hT⟩ := hT.consE
      obtain ⟨z2, tz, rfl, hz2, hT⟩ := hT.consE
      obtain ⟨z3, tz, rfl, hz3, hT⟩ := hT.consE
      obtain ⟨z4, tz, rfl, hz4, hT⟩ := hT.consE
      obtain ⟨z5, tz, rfl, hz5, hT⟩ := hT.consE
      cases hT.nilE
      obtain ⟨oa, os, rfl, _, hoa, hO⟩ := hz4.lstE
      obtain rfl := ints_of (L := r.out) hO
      have ek5 : ltD (r.calls.map fun p : Int × Int => [PyData.int p.1, .int p.2]) = .list (r.calls.map fun p : Int × Int => PyData.tuple [.int p.1, .int p.2]) := by
        unfold ltD
        rw [List.map_map]
        rfl
      have hz5 : Dq S H z5 (.list (r.calls.map fun p : Int × Int => PyData.tuple [.int p.1, .int p.2])) := by
        rw [← ek5]
        exact hz5
      obtain ⟨ca, cs', rfl, _, hca, hC⟩ := hz5.lstE
      exact ⟨r, ta, oa, ca, z1, z2, z3, cs', hr2, rfl, hta, hoa, hca, hC⟩
    obtain ⟨ka, ra, rs, hatl, hka, hra, hR⟩ := lkAt l k hk
    have hrl : rs.length = k.rules.length := by rw [hR.len, List.length_map]
    have hok := fok.lo k (List.mem_of_getElem? hk)
    have hr12 := f3 k (List.mem_of_getElem? hk)
    have hat3 : atI [x1, x2, x3, .ref la] 3 = some (.ref la) := rfl
    refine ⟨_, (pss_cons (ps_asg (pe_ix (ixL (K := K) rfl) (pe_ix (ixT (K := K) rfl) (pv 0) pe_int (fun _ _ => rfl)) (pv 1) (fun _ _ => rfl)) (pgT (n := 3) (K := K) rfl (by rfl) (pgs_cons (pg_name (i := 2) sc_law_puts.nd rfl (.inl rfl)) (pgs_cons (pg_name (i := 3) sc_law_puts.nd rfl (.inl rfl)) (pgs_cons (pg_name (i := 4) sc_law_puts.nd rfl (.inl rfl)) pgs_nil)))))
      (pss_cons (ps_set (i := 5) sc_law_puts.nd rfl (.inl rfl) (pe_lst pa_nil))
      (pss_cons (ps_for PassesOwn.never rfl (piL (K := K) rfl (pv 3)) (pgT (n := 5) (K := K) rfl (by rfl) (pgs_cons (pg_name (i := 6) sc_law_puts.nd rfl (.inl rfl)) (pgs_cons (pg_name (i := 7) sc_law_puts.nd rfl (.inl rfl)) (pgs_cons (pg_name (i := 8) sc_law_puts.nd rfl (.inl rfl)) (pgs_cons (pg_name (i := 9) sc_law_puts.nd rfl (.inl rfl)) (pgs_cons (pg_name (i := 10) sc_law_puts.nd rfl (.inl rfl)) pgs_nil))))))
        (pss_cons (ps_set (i := 5) sc_law_puts.nd rfl (.inl rfl) (pe_op op_cat (pv 5) (pv 9)))
      (pss_one (ps_for PassesOwn.never rfl (piL (K := K) rfl (pv 10)) (pgT (n := 2) (K := K) rfl (by rfl) (pgs_cons (pg_name (i := 11) sc_law_puts.nd rfl (.inl rfl)) (pgs_cons (pg_name (i := 12) sc_law_puts.nd rfl (.inl rfl)) pgs_nil)))
        (pss_one (ps_for PassesOwn.never rfl (piL (K := K) rfl (pe_ix (ixT (K := K) rfl) (pe_ix (ixL (K := K) rfl) (pe_ix (ixT (K := K) rfl) (pv 0) pe_int (fun _ _ => rfl)) (pv 12) (fun _ _ => rfl)) pe_int (fun _ _ => rfl))) (pg_name (i := 13) sc_law_puts.nd rfl (.inl rfl))
        (pss_one (ps_set (i := 5) sc_law_puts.nd rfl (.inl rfl) (pe_op op_cat (pv 5) (pe_ix (ixT (K := K) rfl) (pv 13) pe_int (fun _ _ => rfl)))))))))))
      (pss_one (ps_ret (pv 5)))))), ?_⟩
    walk_at "fl.w"
    rename_i p0 hp0
    have s0 : Same H (upd H p0 (.lst [])) := Fl.Same.new hp0
    have r0 : NuA S (upd H p0 (.lst [])) p0 [] := ⟨upd_same, hS.ni hp0⟩
    have hra0 := s0 _ _ hra
    generalize upd H p0 (.lst []) = G at s0 r0 hra0 ⊢
    refine forK_l (xs := rs) (fun i σ' H' => (∃ u6 u7 u8 u9 u10 u11 u12 u13, ∃ pa : Addr, σ' = [some (.ref wa), some (.int (l : Int)), some (.str k.kind), some (.ref ra), some (.bl k.ign), some (.ref pa), u6, u7, u8, u9, u10, u11, u12, u13] ∧ NuA S H' pa ((k.rules.take i).flatMap (putR fo))) ∧ Same H H') ⟨⟨_, _, _, _, _, _, _, _, p0, rfl, r0⟩, s0⟩ ?_ ?_ ?_
    · intro i σ' H' _ ⟨_, sm⟩
      exact SqL.of (sm _ _ hra)
    · intro i x σ' H' hx ⟨⟨u6, u7, u8, u9, u10, u11, u12, u13, pa, e, npa⟩, sm⟩
      subst e
      obtain ⟨r, ta, oa, ca, z1, z2, z3, cs', hr2, rfl, hta, hoa, hca, hC⟩ := ruAt rs k.rules hR i x hx
      have rok := hok.ro r (List.mem_of_getElem? hr2)
      have hcl : cs'.length = r.calls.length := by rw [hC.len, List.length_map]
      have hc8 := calls_le rok
      have ho8 := rok.o
      have hta2 := sm _ _ hta
      have hoa2 := sm _ _ hoa
      have lpre : ((k.rules.take i).flatMap (putR fo)).length ≤ 3 * 200 := by
        have := fm_len (l := k.rules.take i) (f := putR fo) (B := 200) fun r m => putR_len fok f3 (hok.ro r (List.mem_of_mem_take m))
        rw [List.length_take] at this
        have h5 : min i k.rules.length ≤ 3 := by omega
        have := Nat.mul_le_mul_right 200 h5
        omega
      walk_at "fl.w"
      refine g_cat npa.at_ hoa2 (by rw [List.length_map, List.length_map]; omega) fun p1 hp1 => ?_
      have s1 : Same H' (upd H' p1 (.lst (((k.rules.take i).flatMap (putR fo)).map V.int ++ r.out.map V.int))) := Fl.Same.new hp1
      have n1 : NuA S (upd H' p1 (.lst (((k.rules.take i).flatMap (putR fo)).map V.int ++ r.out.map V.int))) p1 ((k.rules.take i).flatMap (putR fo) ++ r.out) := ⟨by rw [List.map_append]; exact upd_same, (hS.same sm).ni hp1⟩
      generalize upd H' p1 (.lst (((k.rules.take i).flatMap (putR fo)).map V.int ++ r.out.map V.int)) = G1 at s1 n1 ⊢
      have sm1 := sm.trans s1
      have hca1 := sm1 _ _ hca
      walk_at "fl.w"
      refine forK_l (xs := cs') (fun j σ' H' => (∃ u11 u12 u13, ∃ pa : Addr, σ' = [some (.ref wa), some (.int (l : Int)), some (.str k.kind), some (.ref ra), some (.bl k.ign), some (.ref pa), some z1, some z2, some z3, some (.ref oa), some (.ref ca), u11, u12, u13] ∧ NuA S H' pa ((k.rules.take i).flatMap (putR fo) ++ r.out ++ (r.calls.take j).flatMap (putC fo))) ∧ Same H H') ⟨⟨_, _, _, p1, rfl, by simpa using n1⟩, sm1⟩ ?_ ?_ ?_
      · intro j σ' H' _ ⟨_, sm⟩
        exact SqL.of (sm _ _ hca)
      · intro j x σ' H' hx ⟨⟨u11, u12, u13, pa, e, npa⟩, sm⟩
        subst e
        obtain ⟨c, hc, hxc⟩ := hC.getM hx
        obtain ⟨c1, c2⟩ := c
        obtain ⟨t, zr, rfl, _, ht, hZ⟩ := hxc.tupE
        obtain ⟨y1, zr, rfl, hy1, hZ⟩ := hZ.consE
        obtain ⟨y2, zr, rfl, hy2, hZ⟩ := hZ.consE
        cases hZ.nilE
        cases hy1.intE
        cases hy2.intE
        obtain ⟨_, _, c3, kd, hkd, hkd2⟩ := rok.cu j (c1, c2) hc
        have c3 : 0 ≤ c2 := c3
        obtain ⟨k', hk'⟩ : ∃ k', fo.lks[c2.toNat]? = some k' := by
          rw [List.getElem?_map] at hkd
          cases z : fo.lks[c2.toNat]? with
          | none => rw [z] at hkd; cases hkd
          | some k' => exact ⟨k', rfl⟩
        have hok' := fok.lo k' (List.mem_of_getElem? hk')
        obtain ⟨ka', ra', rs', hatl', hka', hra', hR'⟩ := lkAt c2.toNat k' hk'
        have ec2 : c2 = ((c2.toNat : Nat) : Int) := by omega
        rw [← ec2] at hatl'
        have hrl' : rs'.length = k'.rules.length := by rw [hR'.len, List.length_map]
        have hr12' := f3 k' (List.mem_of_getElem? hk')
        have lpre2 : ((r.calls.take j).flatMap (putC fo)).length ≤ 192 := by
          have := fm_len (l := r.calls.take j) (f := putC fo) (B := 24) fun c _ => putC_len fok f3 c
          rw [List.length_take] at this
          have h5 : min j r.calls.length ≤ 8 := by omega
          have := Nat.mul_le_mul_right 24 h5
          omega
        have ht2 := sm _ _ ht
        have hwa2 := sm _ _ hwa
        have hla2 := sm _ _ hla
        have hka2 := sm _ _ hka'
        have hra2 := sm _ _ hra'
        walk_at "fl.w"
        refine forK_l (xs := rs') (fun m σ' H' => (∃ u13, ∃ pa : Addr, σ' = [some (.ref wa), some (.int (l : Int)), some (.str k.kind), some (.ref ra), some (.bl k.ign), some (.ref pa), some z1, some z2, some z3, some (.ref oa), some (.ref ca), some (.int c1), some (.int c2), u13] ∧ NuA S H' pa ((k.rules.take i).flatMap (putR fo) ++ r.out ++ (r.calls.take j).flatMap (putC fo) ++ (k'.rules.take m).flatMap RuV.out)) ∧ Same H H') ⟨⟨_, pa, rfl, by simpa using npa⟩, sm⟩ ?_ ?_ ?_
        · intro m σ' H' _ ⟨_, sm⟩
          exact SqL.of (sm _ _ hra')
        · intro m x σ' H' hx ⟨⟨u13, pa, e, npa⟩, sm⟩
          subst e
          obtain ⟨r', ta', oa', ca', y1, y2, y3, cs2, hr3, rfl, hta', hoa', _, _⟩ := ruAt rs' k'.rules hR' m x hx
          have rok' := hok'.ro r' (List.mem_of_getElem? hr3)
          have ho8' := rok'.o
          have hta3 := sm _ _ hta'
          have hoa3 := sm _ _ hoa'
          have lpre3 : ((k'.rules.take m).flatMap RuV.out).length ≤ 24 := by
            have := fm_len (l := k'.rules.take m) (f := RuV.out) (B := 8) fun r mr => (hok'.ro r (List.mem_of_mem_take mr)).o
            rw [List.length_take] at this
            have h5 : min m k'.rules.length ≤ 3 := by omega
            have := Nat.mul_le_mul_right 8 h5
            omega
          have hat5 : atI [y1, y2, y3, .ref oa', .ref ca'] 3 = some (.ref oa') := rfl
          walk_at "fl.w"
          refine g_cat npa.at_ hoa3 (by simp only [List.length_map, List.length_append]; omega) fun p2 hp2 => ?_
          walk_at "fl.w"
          refine ⟨⟨_, p2, rfl, ?_, (hS.same sm).ni hp2⟩, sm.trans (Fl.Same.new hp2)⟩
          rw [fm_take RuV.out hr3, ← List.append_assoc, List.map_append (l₂ := r'.out)]
          exact upd_same
        · intro σ' H' ⟨⟨u13, pa, e, npa⟩, sm⟩
          subst e
          rw [hrl', List.take_length] at npa
          refine ⟨⟨_, _, _, pa, rfl, ?_⟩, sm⟩
          rw [fm_take (putC fo) hc, ← List.append_assoc]
          have e9 : putC fo (c1, c2) = k'.rules.flatMap RuV.out := by unfold putC; rw [hk']
          rw [e9]
          exact npa
      · intro σ' H' ⟨⟨u11, u12, u13, pa, e, npa⟩, sm⟩
        subst e
        rw [hcl, List.take_length] at npa
        refine ⟨⟨_, _, _, _, _, _, _, _, pa, rfl, ?_⟩, sm⟩
        rw [fm_take (putR fo) hr2]
        unfold putR at npa ⊢
        rw [← List.append_assoc]
        exact npa
    · intro σ' H' ⟨⟨u6, u7, u8, u9, u10, u11, u12, u13, pa, e, npa⟩, sm⟩
      subst e
      rw [hrl, List.take_length] at npa
      walk_at "fl.w"
      refine q _ _ sm (.lst npa.ni npa.at_ ?_)
      have : ∀ ns : List Int, DqA S H' (ns.map V.int) (ns.map PyData.int) := fun ns => by
        induction ns with
        | nil => exact .nil
        | cons n ns ih => exact .cons (.int _) ih
      exact this _
end

section
/-! ### the lambda of apply_rules -/
def lamE : Expr := match defBody s_apply_rules with
  | .Return (some (.Call _ (_ :: _ :: _ :: _ :: e :: _) _ _)) _ :: _ => e
  | _ => .Name "x" ⟨0, 0, 0, 0⟩
def lamPar : Arguments := match lamE with
  | .Lambda p _ _ _ => p
  | _ => defArgs s_apply_rules
def lamBody : Expr := match lamE with
  | .Lambda _ b _ _ => b
  | _ => .Name "x" ⟨0, 0, 0, 0⟩
def lamScope : Scope := match lamE with
  | .Lambda _ _ s _ => s
  | _ => defScope s_apply_rules
abbrev lamN : List Str := ["number", "items", "at", "these", "font"]
abbrev lamF (q : Str) (cl : List (Str × Addr)) (c' : Addr) : NdefX.NF := ⟨"<lambda>", q, lamPar, [], lamScope, cl, c'⟩
theorem lam_ns : NdefX.NScope lamN lps ["font"] lamScope := NdefX.nscope_by (by decide +kernel)
theorem lam_bd (q : Str) (cl : List (Str × Addr)) (c' : Addr) (pm ctv : Value) (us : List Value) (h : us.length = lps.length) : bindArgs (LmD (lamF q cl c') lamBody pm ctv) ⟨us, []⟩ = pure (lps.zip us) := match us, h with | [_, _, _, _], _ => rfl
theorem lam_df : NdefX.ndefB (defScope s_apply_rules) lamScope ["font"] = true := by decide +kernel
end
section
variable {P : Program} {w : World} {K : PySem.W.Frag} {mg : Str → Option Value} {base : Heap}
local macro_rules | `(tactic| walk_at "fl.t") => `(tactic| (with_reducible refine g_callL2 ?_))
local macro_rules | `(tactic| walk_at "fl.w") => `(tactic| repeat walk_at "fl.t")
def spRAm (K : PySem.W.Frag) (c : Cs) : List (Option V) → Sp := fun ws vs H Q E => ∃ v1, ws = [some v1] ∧ vs.length = 4 ∧ spMt K c (v1 :: vs) H Q E
def wFo (c : Cs) : List (Option V) → List Addr → Hp → FoV → Prop := fun ws S H f => ∃ v1, ws = [some v1] ∧ Dq S H v1 (foD c f.R)
theorem ruleAt (K : PySem.W.Frag) (c : Cs) : RuleAt K (spRAm K c) (wFo c) where
  same := fun ⟨v1, e, h⟩ s => ⟨v1, e, h.same s⟩
  ra := fun {ws S H f l a k run v3 p fs Q E} ⟨v1, e, h⟩ hS h3 hp fok hk hrun ha q => ⟨v1, e, rfl, S, f, l, a, k, run, v1, v3, p, fs, rfl, hS, h, h3, hp, fok, hk, hrun, ha, q⟩
theorem lok_rule (T : Txt K mg) (q : Str) (cl : List (Str × Addr)) (c' : Addr) : LOk P w K mg base 8 (lamF q cl c') lamBody lps ["font"] (spRAm K (cs mg)) := by
  obtain ⟨em, hE, dm⟩ := T.d_match
  have len : ∀ vs H Q E, spMt K (cs mg) vs H Q E → vs.length = ps_match.length := fun vs H Q E h => by
    obtain ⟨S, fo, l, a, k, run, v1, v3, p, fs, rfl, _⟩ := h
    rfl
  have h_match_5 := hasD_of (P := P) (w := w) (base := base) dm sc_match 5 1 (by simp) rfl bd_match_5 len (body_match T)
  refine lok_of (k := 7) (N := lamN) lam_ns (lam_bd q cl c') (fun ws vs H Q E h => by obtain ⟨v1, _, h, _⟩ := h; exact h) (fun f A outer s H vs ws Q E hr hw h => ?_)
  obtain ⟨v1, rfl, hl, h⟩ := h
  match vs, hl with
  | [a, b, c, d], _ =>
  refine ⟨_, (pe_hD h_match_5 (hr.mono (by decide)) (pa_cons (pv 4) (pa_cons (pv 0) (pa_cons (pv 1) (pa_cons (pv 2) (pa_cons (pv 3) pa_nil))))) : PE _ lamBody _), ?_⟩
  walk_at "fl.w"
  exact h
abbrev cA (K : PySem.W.Frag) (mg : Str → Option Value) : Addr := codA K (adr mg "apply_rules")
abbrev tP (K : PySem.W.Frag) (mg : Str → Option Value) : Addr := tabA K (cA K mg)
abbrev tq : Str := (Str.ofString "apply_rules" ++ Str.ofString ".<locals>.") ++ Str.ofString "<lambda>"
def spAr (K : PySem.W.Frag) (mg : Str → Option Value) : Sp := fun vs H Q _ => ∃ (S : List Addr) (f : FoV) (l : Nat) (k : LkV) (run : List ItV) (fs : List Int) (v1 v3 : V) (p : Addr), vs = [v1, .int l, v3, .ref p] ∧ tP K mg ∈ S ∧ Al S H ∧ LamX.TabS H (tP K mg) tq ∧ Dq S H v1 (foD (cs mg) f.R) ∧ Dq S H v3 (ruD run) ∧ (∀ H', Fr [tP K mg] H H' → (SqL K H' p (fs.map V.int) ∨ SqT K H' p (fs.map V.int))) ∧ f.Ok ∧ (∀ k, k ∈ f.lks → Out3 k) ∧ f.lks[l]? = some k ∧ RunOk f run ∧ 3 * run.length < 1000 ∧
  ∀ b H', Fr [tP K mg] H H' → LamX.TabS H' (tP K mg) tq → H b = none → Dq S H' (.ref b) (ruD (apV f k fs run)) → Q (.ref b) H'
theorem tab_same {H H' : Hp} {P : Addr} {q : Str} (h : LamX.TabS H P q) (s : Same H H') : LamX.TabS H' P q := h.ext s
theorem body_apply_rules (T : Txt K mg) (TB : LamX.TabB base mg (cA K mg) (tP K mg)) (f c : Addr) (A : Around) (outer : List Env) (s : Shared) (H : Hp) (vs : List V) (Q : VK) (E : XK) (hc : c = codA K (adr mg "apply_rules"))
    (hr : Room 13 (A.deeper (envOfC "apply_rules" (defScope s_apply_rules) s.heap.objs.size f (.ref c)))) (h : spAr K mg vs H Q E) :
      ∃ t, PSs (bx P w K mg base N_apply_rules "apply_rules" s_apply_rules f (.ref c) A outer s H E) (defBody s_apply_rules) t ∧ t { nx := fun _ H' => Q .non H', rt := Q } (start N_apply_rules vs) H := by
  subst hc
  have hL_applied := ok_applied (P := P) (w := w) (base := base) (lb := lamBody) (fr := ["font"]) T (ruleAt K (cs mg))
  have hzL : ∀ (cl : List (Str × Addr)) (c' : Addr), ZL P w K mg base lamBody ["font"] (spRAm K (cs mg)) (lamF tq cl c') := fun cl c' => lok_rule T tq cl c'
  have lamFree := NdefX.ndef_free lam_df
  obtain ⟨S, fo, l, k, run, fs, v1, v3, p, rfl, hPS, hS, tab, h1, h3, hfs, fok, ho3, hk, hrun, h1000, q⟩ := h
  refine ⟨_, (pss_one (ps_ret (pe_hL (mk := mkLam (bx P w K mg base N_apply_rules "apply_rules" s_apply_rules f (.ref (codA K (adr mg "apply_rules"))) A outer s H E) lamPar lamScope) (ws := fun σ => [0].map (NdefX.slotAt σ)) hL_applied (fun c' => hzL _ c') (fun c' I => NdefX.cells_of I (NdefX.Caps.made I.ok lamFree (NdefX.ndef_fr lam_df) rfl)) (hr.mono (by decide)) (pa_cons (pv 0) (pa_cons (pv 1) (pa_cons (pv 2) (pa_cons (pv 3) (pa_cons (pe_lamV TB rfl (by rfl) lamFree) pa_nil)))))))), ?_⟩
  walk_at "fl.w"
  refine g_lamV tab (fun g c' H1 fr tab1 hg lm => ?_)
  walk_at "fl.w"
  have f1 : Fr S H H1 := fr.mono (fun b m => by
    have e : b = tP K mg := by simpa using m
    rw [e]
    exact hPS)
  have al1 : Al S H1 := hS.fr fr (.cons (by obtain ⟨ps, e, _⟩ := tab1; rw [e]; simp) .nil)
  refine ⟨c', S, fo, l, k, run, fs, v1, v3, p, g, rfl, al1, h1.fr f1, ⟨v1, rfl, h1.fr f1⟩, h3.fr f1, hfs H1 fr, fok, ho3, hk, hrun, h1000, lm, fun b H2 sm2 hb hv => ?_⟩
  refine q b H2 (fun a o n e => sm2 _ _ (fr a o n e)) (tab_same tab1 sm2) ?_ hv
  cases z : H b with
  | none => rfl
  | some o =>
    have : b ≠ tP K mg := fun e => by
      obtain ⟨ps, e2, _⟩ := tab1
      rw [e, e2] at hb
      cases hb
    rw [fr b o (by simpa using this) z] at hb
    cases hb
end

section
variable {P : Program} {w : World} {K : PySem.W.Frag} {mg : Str → Option Value} {base : Heap}
def fIv (ds : List PyData) (d : PyData) : Prop := ∃ (l : List Int) (n : Nat), ds = [.list (iD l), .int n] ∧ IsSet n l ∧ d = .bool true
theorem ok_is_rising (T : Txt K mg) : Has P w K mg base 1 "is_rising" ps_is_rising (spD fIv) := by
  refine has_of T.d_is_rising sc_is_rising bd_is_rising (fun vs H Q E h => ?_) (fun f cdv A outer s H vs Q E hr h => ?_)
  · obtain ⟨S, ds, d, _, hd, ⟨l, n, rfl, _⟩, _⟩ := h
    rw [hd.len]
    rfl
  · obtain ⟨S, ds, d, hS, hd, ⟨l, n, rfl, hl, rfl⟩, q⟩ := h
    obtain ⟨v2, _, rfl, h2, hd⟩ := hd.consE
    obtain ⟨v3, _, rfl, h3, hd⟩ := hd.consE
    cases hd.nilE
    cases h3.intE
    obtain ⟨e, xs, rfl, he, hel, hE⟩ := lstN (f := PyData.int) h2
    refine ⟨_, (pss_cons (ps_set (i := 2) sc_is_rising.nd rfl (.inl rfl) (pe_un un_neg pe_int))
      (pss_cons (ps_for PassesOwn.never rfl (piL (K := K) rfl (pv 0)) (pg_name (i := 3) sc_is_rising.nd rfl (.inl rfl))
        (pss_cons (ps_if (pt_not (pt_chain op_lt op_lt (pv 2) (pv 3) (pv 1)))
        pss_never
        pss_nil)
      (pss_one (ps_set (i := 2) sc_is_rising.nd rfl (.inl rfl) (pv 3)))))
      (pss_one (ps_ret pe_bl)))), ?_⟩
    walk_at "fl.w"
    refine forK_l (xs := xs) (fun i σ' H' => (∃ u, σ' = [some (.ref e), some (.int (n : Int)), some (.int (prv l i)), u]) ∧ H' = H) ⟨⟨_, rfl⟩, rfl⟩ ?_ ?_ ?_
    · intro i σ' H' _ ⟨_, e⟩
      subst e
      exact SqL.of he
    · intro i x σ' H' hxi ⟨⟨u, e1⟩, e2⟩
      subst e1 e2
      obtain ⟨g, hg1, hx⟩ := hE.getM hxi
      cases hx.intE
      obtain ⟨g1, g2⟩ := hl.up i g hg1
      walk_at "fl.w"
      refine g_yesB g1 ?_
      walk_at "fl.w"
      refine g_nB (show (g : Int) < (n : Int) by omega) ?_
      walk_at "fl.w"
      exact ⟨⟨_, by simp only [prv, hg1, Option.getD_some]; rfl⟩, rfl⟩
    · intro σ' H' ⟨⟨u, e1⟩, e2⟩
      subst e1 e2
      walk_at "fl.w"
      exact q _ _ (L2.Same.refl _) (.bl true)
def fIs (c : Cs) (ds : List PyData) (d : PyData) : Prop := ∃ (f : FoR) (l : List Int), ds = [foD c f, .list (iD l)] ∧ IsSet f.glyphs.length l ∧ f.glyphs.length < 1000 ∧ d = .bool true
theorem ok_is_set (T : Txt K mg) : Has P w K mg base 2 "is_set" ps_is_set (spD (fIs (cs mg))) := by
  obtain ⟨_, _, _, _, _, _, _, _, _, _, _, _, _, _, cF⟩ := T.c_Font
  have clF := cF.cl
  have naF := cF.na
  have h_is_rising := ok_is_rising (P := P) (w := w) (base := base) T
  refine has_of T.d_is_set sc_is_set bd_is_set (fun vs H Q E h => ?_) (fun f cdv A outer s H vs Q E hr h => ?_)
  · obtain ⟨S, ds, d, _, hd, ⟨fo, l, rfl, _⟩, _⟩ := h
    rw [hd.len]
    rfl
  · obtain ⟨S, ds, d, hS, hd, ⟨fo, l, rfl, hl, hg, rfl⟩, q⟩ := h
    obtain ⟨v1, _, rfl, h1, hd⟩ := hd.consE
    obtain ⟨v2, _, rfl, h2, hd⟩ := hd.consE
    cases hd.nilE
    obtain ⟨a, dx, w1, w2, w3, w4, w5, w6, w7, w8, w9, rfl, na, hA, k1, k2, k3, k4, k5, k6, k7, k8, k9⟩ := foE h1
    obtain ⟨b, gs, rfl, hb, hbl, _⟩ := lstN k2
    have h2' := h2
    obtain ⟨e, xs, rfl, he, hel, hE⟩ := lstN (f := PyData.int) h2'
    have hbl' : (gs.length : Int) = (fo.glyphs.length : Int) := by rw [hbl]
    have h0 : (0 : Int) < (xs.length : Int) := by
      have := hl.ne
      cases l with
      | nil => exact absurd rfl this
      | cons _ _ => rw [hel, List.length_cons]; omega
    refine ⟨_, (pss_one (ps_ret (pe_and (pe_cmpR op_gt (pe_callB (clLen (K := K) rfl) (by rfl) T.z_len (by decide +kernel) (pa_cons (pv 1) pa_nil)) pe_int (nomark _)) (pe_one (pe_h h_is_rising (hr.mono (by decide)) (pa_cons (pv 1) (pa_cons (pe_callB (clLen (K := K) rfl) (by rfl) T.z_len (by decide +kernel) (pa_cons (peFld (K := K) rfl (pv 0) rfl) pa_nil)) pa_nil))))))), ?_⟩
    walk_at "fl.w"
    refine g_yesB h0 ?_
    walk_at "fl.w"
    exact spD_app S [.list (iD l), .int (fo.glyphs.length : Int)] (.bool true) hS (.cons h2 (.cons (hbl' ▸ .int _) .nil)) ⟨_, _, rfl, hl, rfl⟩ (fun v H2 sm hv => by exact q _ _ sm hv)
end

section
variable {P : Program} {w : World} {K : PySem.W.Frag} {mg : Str → Option Value} {base : Heap}
def fSr (c : Cs) (ds : List PyData) (d : PyData) : Prop := ∃ (f : FoR) (ks : List Str) (kind : Str) (r : RuV), ds = [foD c f, .str kind, insD c.R r.R.F] ∧ kind ∈ kindsR ∧ r.Ok f.glyphs.length ks kind ∧ FoK f ks ∧ d = .none
theorem ok_sets_reason (T : Txt K mg) (I : InsK K w mg) : Has P w K mg base 3 "sets_reason" ps_sets_reason (spD (fSr (cs mg))) := by
  obtain ⟨_, _, _, _, _, _, _, _, _, _, _, _, _, _, cF⟩ := T.c_Font
  have clF := cF.cl
  have naF := cF.na
  obtain ⟨_, _, _, _, _, _, _, _, cR⟩ := T.c_Rule
  have clR := cR.cl
  have naR := cR.na
  have gd_INSIDE := I.g
  obtain ⟨es, n, kd_INSIDE⟩ := I.d
  have h_is_set := ok_is_set (P := P) (w := w) (base := base) T
  refine has_of T.d_sets_reason sc_sets_reason bd_sets_reason (fun vs H Q E h => ?_) (fun f cdv A outer s H vs Q E hr h => ?_)
  · obtain ⟨S, ds, d, _, hd, ⟨fo, ks, kind, r, rfl, _⟩, _⟩ := h
    rw [hd.len]
    rfl
  · obtain ⟨S, ds, d, hS, hd, ⟨fo, ks, kind, r, rfl, hkd, rok, hg, rfl⟩, q⟩ := h
    obtain ⟨v1, _, rfl, h1, hd⟩ := hd.consE
    obtain ⟨v2, _, rfl, h2, hd⟩ := hd.consE
    obtain ⟨v3, _, rfl, h3, hd⟩ := hd.consE
    cases hd.nilE
    cases h2
    obtain ⟨a, dx, u1, u2, u3, u4, u5, u6, rfl, na, hA, k1, k2, k3, k4, k5, k6⟩ := ruE h3
    obtain ⟨b1, xs1, rfl, hb1, hl1, hD1⟩ := lstN k1
    obtain ⟨b2, xs2, rfl, hb2, hl2, hD2⟩ := lstN k2
    obtain ⟨b3, xs3, rfl, hb3, hl3, hD3⟩ := lstN k3
    obtain ⟨t, lo, hi, hns, hsq, hin⟩ := I.k kind hkd
    have hsq := hsq H
    have hgs := T.gs_WITH_CONTEXT H
    have hll1 : xs1.length = r.inside.length := by rw [hl1]; exact List.length_map _
    have hll2 : xs2.length = r.back.length := by rw [hl2]; exact List.length_map _
    have hll3 : xs3.length = r.ahead.length := by rw [hl3]; exact List.length_map _
    have hlo : lo ≤ (xs1.length : Int) ∧ (xs1.length : Int) ≤ hi := by
      have := rok.i3
      rw [hll1]
      simp only [List.mem_cons, List.not_mem_nil, or_false, Prod.mk.injEq] at hin
      rcases hin with ⟨rfl, rfl, rfl⟩ | ⟨rfl, rfl, rfl⟩ | ⟨rfl, rfl, rfl⟩ | ⟨rfl, rfl, rfl⟩ | ⟨rfl, rfl, rfl⟩
      · have := rok.i (.inl rfl); omega
      · have := rok.i (.inr (.inl rfl)); omega
      · have := rok.i2 rfl; omega
      · omega
      · have := rok.i (.inr (.inr rfl)); omega
    refine ⟨_, (pss_cons (ps_asg (pe_ix ix_kdict (pe_glob (by rfl) gd_INSIDE (v := .ref (adr mg "INSIDE")) rfl) (pv 1) (fun _ _ => rfl)) (pgT (n := 2) (K := K) rfl (by rfl) (pgs_cons (pg_name (i := 3) sc_sets_reason.nd rfl (.inl rfl)) (pgs_cons (pg_name (i := 4) sc_sets_reason.nd rfl (.inl rfl)) pgs_nil))))
      (pss_cons (ps_if (pt_not (pt_chain op_le op_le (pv 3) (pe_callB (clLen (K := K) rfl) (by rfl) T.z_len (by decide +kernel) (pa_cons (peFld (K := K) rfl (pv 2) rfl) pa_nil)) (pv 4)))
        pss_never
        pss_nil)
      (pss_cons (ps_if (PW.pt (pw_or (pt_cmpR op_gt (pe_callB (clLen (K := K) rfl) (by rfl) T.z_len (by decide +kernel) (pa_cons (peFld (K := K) rfl (pv 2) rfl) pa_nil)) (pe_gv (by rfl) T.g_MOST_AROUND) (nomark _)) (pw_or1 (pt_cmpR op_gt (pe_callB (clLen (K := K) rfl) (by rfl) T.z_len (by decide +kernel) (pa_cons (peFld (K := K) rfl (pv 2) rfl) pa_nil)) (pe_gv (by rfl) T.g_MOST_AROUND) (nomark _)))))
        pss_never
        pss_nil)
      (pss_cons (ps_if (PW.pt (pw_and (pt_cmpR (opNotIn (K := K) rfl) (pv 1) (pe_glob (by rfl) T.gt_WITH_CONTEXT (v := .ref (adr mg "WITH_CONTEXT")) rfl) (by rfl)) (pw_and1 (PW.pt (pw_or (ptTru (K := K) rfl (peFld (K := K) rfl (pv 2) rfl) (by intro _; rfl)) (pw_or1 (ptTru (K := K) rfl (peFld (K := K) rfl (pv 2) rfl) (by intro _; rfl))))))))
        pss_never
        pss_nil)
      (pss_cons (ps_if (pt_not (pt_val (pe_callB (clAll (K := K) rfl rfl) (by rfl) T.z_all (by decide +kernel) (pa_cons (pe_lc (own := [("chosen", 5)]) rfl sc_sets_reason.nd (piL (K := K) rfl (pe_op op_cat (pe_op op_cat (peFld (K := K) rfl (pv 2) rfl) (peFld (K := K) rfl (pv 2) rfl)) (peFld (K := K) rfl (pv 2) rfl))) (blkOk_by (by kernel_rfl)) (fun _ _ _ _ _ => (pg_name (i := 5) sc_sets_reason.nd rfl (.inl rfl))) (fun _ _ _ _ _ => pts_nil) (fun _ _ _ _ _ => (pe_h h_is_set (hr.mono (by decide)) (pa_cons (pv 0) (pa_cons (pv 5) pa_nil))))) pa_nil))))
        pss_never
        pss_nil)
      (pss_one (ps_ret pe_non))))))), ?_⟩
    walk_at "fl.w"
    refine g_kd (v := .ref t) ⟨_, _, _, kd_INSIDE.at_, kd_INSIDE.lit, hns, rfl⟩ ?_
    walk_at "fl.w"
    refine g_gtup hsq rfl ?_
    walk_at "fl.w"
    refine g_yesB hlo.1 ?_
    walk_at "fl.w"
    refine g_nB hlo.2 ?_
    walk_at "fl.w"
    refine g_noB (by have := rok.b; omega) ?_
    walk_at "fl.w"
    refine g_noB (by have := rok.a; omega) ?_
    walk_at "fl.w"
    have z1 : xs1.length ≤ 4 := by rw [hll1]; exact rok.i3.2
    have z2 : xs2.length ≤ 3 := by rw [hll2]; exact rok.b
    have z3 : xs3.length ≤ 3 := by rw [hll3]; exact rok.a
    have hkd' := hkd
    simp only [kindsR, List.mem_cons, List.not_mem_nil, or_false] at hkd'
    rcases Decidable.em (kind = "chain" ∨ kind = "reverse") with hc | hc
    all_goals first
      | (refine g_inT (b := false) hgs rfl rfl (by rcases hc with rfl | rfl <;> rfl) ?_; walk_at "fl.w")
      | (have hba := rok.ba hc
         refine g_inT (b := true) hgs rfl rfl (by rcases hkd' with rfl | rfl | rfl | rfl | rfl <;> first | rfl | exact absurd (.inl rfl) hc | exact absurd (.inr rfl) hc) ?_
         walk_at "fl.w"
         refine g_tru0n (SqL.of hb2) (by rw [hll2, hba.1]; rfl) ?_
         walk_at "fl.w"
         refine g_tru0n (SqL.of hb3) (by rw [hll3, hba.2]; rfl) ?_
         walk_at "fl.w")
    all_goals (
      rename_i p1 hp1 p2 hp2
      have hC : DqA S H (xs1 ++ xs2 ++ xs3) ((r.inside ++ r.back ++ r.ahead).map fun l => .list (iD l)) := by
        have := (hD1.app hD2).app hD3
        simp only [RuV.R, List.map_append, List.map_map] at this ⊢
        exact this
      have hsm : Same H (upd (upd H p1 (.lst (xs1 ++ xs2))) p2 (.lst (xs1 ++ xs2 ++ xs3))) := L2.Same.trans (Fl.Same.new hp1) (Fl.Same.new hp2)
      have hq2 : Dq S (upd (upd H p1 (.lst (xs1 ++ xs2))) p2 (.lst (xs1 ++ xs2 ++ xs3))) (.ref p2) (.list ((r.inside ++ r.back ++ r.ahead).map fun l => .list (iD l))) := Dq.newL (hS.same (Fl.Same.new hp1)) hp2 (hC.same (Fl.Same.new hp1))
      have h1s := h1.same hsm
      refine lcL (S := S) (fun i => ((r.inside ++ r.back ++ r.ahead)[i]?).map fun _ => .bool true) (hS.same hsm) hq2 (by simp only [List.length_map, List.length_append]; omega) ?_ ?_
      · intro D i x e H2 hD he sm al hxe R N hR hN
        obtain ⟨l, hl1', rfl⟩ := at_map he
        have h1s := (h1s.new hD).same sm
        refine g_name ⟨rfl, ?_⟩
        walk_at "fl.w"
        exact spD_app (D :: S) [foD (cs mg) fo, .list (iD l)] (.bool true) al (.cons h1s (.cons hxe .nil)) ⟨fo, l, rfl, rok.s l (List.mem_of_getElem? hl1'), hg.g, rfl⟩ (fun v H3 sm3 hv => hR _ _ _ (by rw [hl1']; rfl) sm3 hv)
      · intro D H2 sm hD hq
        rw [fm_ltA (by rw [List.length_map])] at hq
        refine allD hq ?_
        walk_at "fl.w"
        exact q _ _ (L2.Same.trans hsm sm) .non)
end

section
variable {P : Program} {w : World} {K : PySem.W.Frag} {mg : Str → Option Value} {base : Heap}
theorem ok_out_reason (T : Txt K mg) : Has P w K mg base 1 "out_reason" ps_out_reason (spD (fSr (cs mg))) := by
  obtain ⟨_, _, _, _, _, _, _, _, _, _, _, _, _, _, cF⟩ := T.c_Font
  have clF := cF.cl
  have naF := cF.na
  obtain ⟨_, _, _, _, _, _, _, _, cR⟩ := T.c_Rule
  have clR := cR.cl
  have naR := cR.na
  refine has_of T.d_out_reason sc_out_reason bd_out_reason (fun vs H Q E h => ?_) (fun f cdv A outer s H vs Q E hr h => ?_)
  · obtain ⟨S, ds, d, _, hd, ⟨fo, ks, kind, r, rfl, _⟩, _⟩ := h
    rw [hd.len]
    rfl
  · obtain ⟨S, ds, d, hS, hd, ⟨fo, ks, kind, r, rfl, hkd, rok, hg, rfl⟩, q⟩ := h
    obtain ⟨v1, _, rfl, h1, hd⟩ := hd.consE
    obtain ⟨v2, _, rfl, h2, hd⟩ := hd.consE
    obtain ⟨v3, _, rfl, h3, hd⟩ := hd.consE
    cases hd.nilE
    cases h2
    obtain ⟨a, dx, u1, u2, u3, u4, u5, u6, rfl, na, hA, k1, k2, k3, k4, k5, k6⟩ := ruE h3
    obtain ⟨b1, xs1, rfl, hb1, hl1, hD1⟩ := lstN k1
    obtain ⟨b4, xs4, rfl, hb4, hl4, hD4⟩ := lstN (f := PyData.int) k4
    obtain ⟨fa, fdx, w1, w2, w3, w4, w5, w6, w7, w8, w9, rfl, fna, fA, j1, j2, j3, j4, j5, j6, j7, j8, j9⟩ := foE h1
    obtain ⟨gb, gs, rfl, hgb, hgl, _⟩ := lstN j2
    have hgs := T.gs_WITH_OUT H
    have hll1 : xs1.length = r.inside.length := by rw [hl1]; exact List.length_map _
    have z4 := rok.o
    have z4l : xs4.length = r.out.length := hl4
    obtain ⟨c0, hc0⟩ : ∃ c, r.inside[0]? = some c := ⟨_, List.getElem?_eq_getElem (by have := rok.i3; omega)⟩
    have hD1' : DqA S H xs1 (r.inside.map fun l => .list (iD l)) := by
      simp only [RuV.R, List.map_map] at hD1
      exact hD1
    obtain ⟨x0, hx0, hx0D⟩ := hD1'.getD (i := 0) (by rw [List.getElem?_map, hc0]; rfl)
    obtain ⟨b0, ys0, rfl, hb0, hl0, _⟩ := lstN (f := PyData.int) hx0D
    have hat : atI xs1 0 = some (.ref b0) := atI_nat (j := 0) hx0
    have hkd' := hkd
    simp only [kindsR, List.mem_cons, List.not_mem_nil, or_false] at hkd'
    refine ⟨_, (pss_cons (ps_set (i := 3) sc_out_reason.nd rfl (.inl rfl) (pe_callB (clLen (K := K) rfl) (by rfl) T.z_len (by decide +kernel) (pa_cons (peFld (K := K) rfl (pv 2) rfl) pa_nil)))
      (pss_cons (ps_if (pt_cmpR op_gt (pv 3) (pe_gv (by rfl) T.g_MOST_OUT) (nomark _))
        pss_never
        pss_nil)
      (pss_cons (ps_if (pt_not (pt_val (pe_callB (clAll (K := K) rfl rfl) (by rfl) T.z_all (by decide +kernel) (pa_cons (pe_lc (own := [("glyph", 4)]) rfl sc_out_reason.nd (piL (K := K) rfl (peFld (K := K) rfl (pv 2) rfl)) (blkOk_by (by kernel_rfl)) (fun _ _ _ _ _ => (pg_name (i := 4) sc_out_reason.nd rfl (.inl rfl))) (fun _ _ _ _ _ => pts_nil) (fun _ _ _ _ _ => (pe_chain op_le op_lt pe_int (pv 4) (pe_callB (clLen (K := K) rfl) (by rfl) T.z_len (by decide +kernel) (pa_cons (peFld (K := K) rfl (pv 0) rfl) pa_nil))))) pa_nil))))
        pss_never
        pss_nil)
      (pss_cons (ps_if (PW.pt (pw_and (pt_cmpR (opNotIn (K := K) rfl) (pv 1) (pe_glob (by rfl) T.gt_WITH_OUT (v := .ref (adr mg "WITH_OUT")) rfl) (by rfl)) (pw_and1 (pt_cmpR op_gt (pv 3) pe_int (nomark _)))))
        pss_never
        pss_nil)
      (pss_cons (ps_if (PW.pt (pw_and (pt_cmpR (opIn (K := K) rfl) (pv 1) (pe_tup (pa_cons pe_str (pa_cons pe_str pa_nil))) (by rfl)) (pw_and1 (pt_cmpR op_ne (pv 3) (pe_callB (clLen (K := K) rfl) (by rfl) T.z_len (by decide +kernel) (pa_cons (pe_ix (ixL (K := K) rfl) (peFld (K := K) rfl (pv 2) rfl) pe_int (fun _ _ => rfl)) pa_nil)) (nomark _)))))
        pss_never
        pss_nil)
      (pss_cons (ps_if (PW.pt (pw_and (pt_cmpR op_eq (pv 1) pe_str (nomark _)) (pw_and1 (pt_cmpR op_ne (pv 3) pe_int (nomark _)))))
        pss_never
        pss_nil)
      (pss_one (ps_ret pe_non)))))))), ?_⟩
    walk_at "fl.w"
    refine g_noB (by omega) ?_
    walk_at "fl.w"
    refine lcL (S := S) (fun i => (r.out[i]?).map fun _ => .bool true) hS k4 (by show (r.out.map PyData.int).length < 1000; rw [List.length_map]; omega) ?_ ?_
    · intro D i x e H2 hD he sm al hxe R N hR hN
      obtain ⟨g, hg1, rfl⟩ := at_map (f := PyData.int) he
      cases hxe.intE
      have hgg := rok.og g (List.mem_of_getElem? hg1)
      have fA2 := sm _ _ fA
      have hgb2 := sm _ _ hgb
      refine g_name ⟨rfl, ?_⟩
      walk_at "fl.w"
      refine g_yesB hgg.1 ?_
      walk_at "fl.w"
      rw [decide_eq_true (show g < (gs.length : Int) by omega)]
      exact hR _ _ _ (by rw [hg1]; rfl) (L2.Same.refl _) (.bl _)
    intro D H2 sm hD hq
    rw [fm_ltA (by show (r.out.map PyData.int).length = _; rw [List.length_map])] at hq
    refine allD hq ?_
    have hA := sm _ _ hA
    have hb1 := sm _ _ hb1
    have hb4 := sm _ _ hb4
    have hgs := T.gs_WITH_OUT H2
    have hb0 := sm _ _ hb0
    walk_at "fl.w"
    rcases hkd' with rfl | rfl | rfl | rfl | rfl
    all_goals (
      first
        | (refine g_inT (b := false) hgs rfl rfl rfl ?_
           walk_at "fl.w")
        | (refine g_inT (b := true) hgs rfl rfl rfl ?_
           walk_at "fl.w"
           refine g_noB (by have := congrArg List.length (rok.oc rfl); simp only [List.length_nil] at this; omega) ?_
           walk_at "fl.w")
      rename_i p hp
      first
        | (refine g_inT (b := false) (SqT.of upd_same) rfl rfl rfl ?_
           walk_at "fl.w")
        | (refine g_inT (b := true) (SqT.of upd_same) rfl rfl rfl ?_
           walk_at "fl.w"
           refine g_nB (by first | (have := rok.os (.inl rfl) c0 hc0; omega) | (have := rok.os (.inr rfl) c0 hc0; omega)) ?_
           walk_at "fl.w")
      first
        | (refine g_noB (by decide) ?_
           walk_at "fl.w")
        | (refine g_yesB (by decide) ?_
           walk_at "fl.w"
           refine g_nB (by have := rok.ol rfl; omega) ?_
           walk_at "fl.w")
      exact q _ _ (L2.Same.trans sm (Fl.Same.new hp)) .non)
end

section
variable {P : Program} {w : World} {K : PySem.W.Frag} {mg : Str → Option Value} {base : Heap}
theorem ok_calls_reason (T : Txt K mg) : Has P w K mg base 1 "calls_reason" ps_calls_reason (spD (fSr (cs mg))) := by
  obtain ⟨_, _, _, _, _, _, _, _, _, _, _, _, _, _, cF⟩ := T.c_Font
  have clF := cF.cl
  have naF := cF.na
  obtain ⟨_, _, _, _, _, _, _, _, cR⟩ := T.c_Rule
  have clR := cR.cl
  have naR := cR.na
  have clL := T.c_Lookup.cl
  have naL := T.c_Lookup.na
  refine has_of T.d_calls_reason sc_calls_reason bd_calls_reason (fun vs H Q E h => ?_) (fun f cdv A outer s H vs Q E hr h => ?_)
  · obtain ⟨S, ds, d, _, hd, ⟨fo, ks, kind, r, rfl, _⟩, _⟩ := h
    rw [hd.len]
    rfl
  · obtain ⟨S, ds, d, hS, hd, ⟨fo, ks, kind, r, rfl, hkd, rok, hg, rfl⟩, q⟩ := h
    obtain ⟨v1, _, rfl, h1, hd⟩ := hd.consE
    obtain ⟨v2, _, rfl, h2, hd⟩ := hd.consE
    obtain ⟨v3, _, rfl, h3, hd⟩ := hd.consE
    cases hd.nilE
    cases h2
    obtain ⟨a, dx, u1, u2, u3, u4, u5, u6, rfl, na, hA, k1, k2, k3, k4, k5, k6⟩ := ruE h3
    obtain ⟨b1, xs1, rfl, hb1, hl1, hD1⟩ := lstN k1
    obtain ⟨b5, xs5, rfl, hb5, hl5, hD5⟩ := lstN k5
    obtain ⟨fa, fdx, w1, w2, w3, w4, w5, w6, w7, w8, w9, rfl, fna, fA, j1, j2, j3, j4, j5, j6, j7, j8, j9⟩ := foE h1
    obtain ⟨lb, ls, rfl, hlb, hll, hlD⟩ := lstN j4
    have hll1 : xs1.length = r.inside.length := by rw [hl1]; exact List.length_map _
    have hll5 : xs5.length = r.calls.length := by rw [hl5]; exact List.length_map _
    have hD5' : DqA S H xs5 (r.calls.map fun p => .tuple [.int p.1, .int p.2]) := by
      simp only [RuV.R, List.map_map] at hD5
      exact hD5
    refine ⟨_, (pss_cons (ps_if (PW.pt (pw_and (pt_cmpR op_ne (pv 1) pe_str (nomark _)) (pw_and1 (ptTru (K := K) rfl (peFld (K := K) rfl (pv 2) rfl) (by intro _; rfl)))))
        pss_never
        pss_nil)
      (pss_cons (ps_set (i := 3) sc_calls_reason.nd rfl (.inl rfl) (pe_un un_neg pe_int))
      (pss_cons (ps_for PassesOwn.never rfl (piL (K := K) rfl (peFld (K := K) rfl (pv 2) rfl)) (pgT (n := 2) (K := K) rfl (by rfl) (pgs_cons (pg_name (i := 4) sc_calls_reason.nd rfl (.inl rfl)) (pgs_cons (pg_name (i := 5) sc_calls_reason.nd rfl (.inl rfl)) pgs_nil)))
        (pss_cons (ps_if (pt_not (pt_chain op_lt op_lt (pv 3) (pv 4) (pe_callB (clLen (K := K) rfl) (by rfl) T.z_len (by decide +kernel) (pa_cons (peFld (K := K) rfl (pv 2) rfl) pa_nil))))
        pss_never
        pss_nil)
      (pss_cons (ps_if (PW.pt (pw_or (pt_not (pt_chain op_le op_lt pe_int (pv 5) (pe_callB (clLen (K := K) rfl) (by rfl) T.z_len (by decide +kernel) (pa_cons (peFld (K := K) rfl (pv 0) rfl) pa_nil)))) (pw_or1 (pt_cmpR (opNotIn (K := K) rfl) (peFld (K := K) rfl (pe_ix (ixL (K := K) rfl) (peFld (K := K) rfl (pv 0) rfl) (pv 5) (fun _ _ => rfl)) rfl) (pe_tup (pa_cons pe_str (pa_cons pe_str pa_nil))) (by rfl)))))
        pss_never
        pss_nil)
      (pss_one (ps_set (i := 3) sc_calls_reason.nd rfl (.inl rfl) (pv 4))))))
      (pss_one (ps_ret pe_non))))), ?_⟩
    walk_at "fl.w"
    refine g_neS ?_
    walk_at "fl.w"
    rcases Decidable.em (kind = "chain") with hc | hc
    all_goals (
      first
        | (refine g_nB hc ?_
           walk_at "fl.w")
        | (refine g_noNB hc ?_
           walk_at "fl.w"
           refine g_tru0n (SqL.of hb5) (by rw [hll5, rok.c hc]; rfl) ?_
           walk_at "fl.w")
      refine forK_l (xs := xs5) (fun i σ' H' => (∃ u1 u2, σ' = [some (.ref fa), some (.str kind), some (.ref a), some (.int (prv (r.calls.map Prod.fst) i)), u1, u2]) ∧ Same H H') ⟨⟨_, _, rfl⟩, L2.Same.refl _⟩ ?_ ?_ ?_
      · intro i σ' H' _ ⟨_, e⟩
        exact SqL.of (e _ _ hb5)
      · intro i x σ' H' hxi ⟨⟨u1, u2, e1⟩, sm⟩
        subst e1
        obtain ⟨⟨ci, cl⟩, hc1, hx⟩ := (hD5'.same sm).getM hxi
        obtain ⟨t5, zs, rfl, _, ht5, hZ⟩ := hx.tupE
        obtain ⟨y1, zs, rfl, hy1, hZ⟩ := hZ.consE
        obtain ⟨y2, zs, rfl, hy2, hZ⟩ := hZ.consE
        cases hZ.nilE
        cases hy1.intE
        cases hy2.intE
        obtain ⟨c1, c2, c3, k, hk1, hk2⟩ := rok.cu i (ci, cl) hc1
        simp only at c1 c2 c3 hk1
        obtain ⟨lk, hlk1, hlk2⟩ := hg.k _ k hk1
        obtain ⟨n, rfl⟩ : ∃ n : Nat, cl = n := ⟨cl.toNat, by omega⟩
        rw [Int.toNat_natCast] at hlk1
        obtain ⟨x6, hx6, hx6D⟩ := (hlD.same sm).getD (i := n) (by rw [List.getElem?_map, hlk1]; rfl)
        obtain ⟨la, ldx, l1, l2, l3, rfl, _, hlA, m1, m2, m3⟩ := lkE hx6D
        rw [hlk2] at m1
        cases m1
        have hat : atI ls (n : Int) = some (.ref la) := atI_nat (j := n) hx6
        have hln := (List.getElem?_eq_some_iff.mp hx6).1
        have hA := sm _ _ hA
        have fA := sm _ _ fA
        have hb1 := sm _ _ hb1
        have hlb := sm _ _ hlb
        walk_at "fl.w"
        refine g_yesB c1 ?_
        walk_at "fl.w"
        refine g_nB (by rw [hll1]; exact c2) ?_
        walk_at "fl.w"
        refine g_yesB c3 ?_
        walk_at "fl.w"
        refine g_nB (by omega) ?_
        walk_at "fl.w"
        rename_i p hp
        refine g_inT (b := false) (SqT.of upd_same) rfl rfl (by rcases hk2 with rfl | rfl <;> rfl) ?_
        walk_at "fl.w"
        refine ⟨⟨some (.int ci), some (.int (n : Int)), ?_⟩, L2.Same.trans sm (Fl.Same.new hp)⟩
        have e : prv (r.calls.map Prod.fst) (i + 1) = ci := by simp only [prv, List.getElem?_map, hc1, Option.map_some, Option.getD_some]
        rw [e]
        rfl
      · intro σ' H' ⟨⟨u1, u2, e1⟩, sm⟩
        subst e1
        walk_at "fl.w"
        exact q _ _ sm .non)
def fEr (c : Cs) (ds : List PyData) (d : PyData) : Prop := ∃ (kind : Str) (r : RuV), ds = [.str kind, insD c.R r.R.F] ∧ d = .none
theorem ok_extra_reason (T : Txt K mg) : Has P w K mg base 1 "extra_reason" ps_extra_reason (spD (fEr (cs mg))) := by
  obtain ⟨_, _, _, _, _, _, _, _, cR⟩ := T.c_Rule
  have clR := cR.cl
  have naR := cR.na
  refine has_of T.d_extra_reason sc_extra_reason bd_extra_reason (fun vs H Q E h => ?_) (fun f cdv A outer s H vs Q E hr h => ?_)
  · obtain ⟨S, ds, d, _, hd, ⟨kind, r, rfl, _⟩, _⟩ := h
    rw [hd.len]
    rfl
  · obtain ⟨S, ds, d, hS, hd, ⟨kind, r, rfl, rfl⟩, q⟩ := h
    obtain ⟨v2, _, rfl, h2, hd⟩ := hd.consE
    obtain ⟨v3, _, rfl, h3, hd⟩ := hd.consE
    cases hd.nilE
    cases h2
    obtain ⟨a, dx, u1, u2, u3, u4, u5, u6, rfl, na, hA, k1, k2, k3, k4, k5, k6⟩ := ruE h3
    cases k6
    refine ⟨_, (pss_cons (ps_if (PW.pt (pw_and (pt_cmpR op_ne (pv 0) pe_str (nomark _)) (pw_and1 (pt_cmpR op_ne (peFld (K := K) rfl (pv 1) rfl) pe_int (nomark _)))))
        pss_never
        pss_nil)
      (pss_cons (ps_if (pt_not (pt_chain op_le op_le (pe_un un_neg (pe_gv (by rfl) T.g_FARTHEST)) (peFld (K := K) rfl (pv 1) rfl) (pe_gv (by rfl) T.g_FARTHEST)))
        pss_never
        pss_nil)
      (pss_one (ps_ret pe_non)))), ?_⟩
    walk_at "fl.w"
    refine g_neS ?_
    walk_at "fl.w"
    rcases Decidable.em (kind = "pair") with hc | hc
    all_goals (
      first
        | (refine g_nB hc ?_
           walk_at "fl.w")
        | (refine g_noNB hc ?_
           walk_at "fl.w"
           refine g_nB rfl ?_
           walk_at "fl.w")
      refine g_yesB (by decide) ?_
      walk_at "fl.w"
      refine g_nB (by decide) ?_
      walk_at "fl.w"
      exact q _ _ (L2.Same.refl _) .non)
def fLr (c : Cs) (ds : List PyData) (d : PyData) : Prop := ∃ (f : FoR) (ks : List Str) (k : LkV), ds = [foD c f, lkD c k.R] ∧ k.Ok f.glyphs.length ks ∧ FoK f ks ∧ d = .none
theorem ok_lookup_reason (T : Txt K mg) (I : InsK K w mg) : Has P w K mg base 4 "lookup_reason" ps_lookup_reason (spD (fLr (cs mg))) := by
  have clL := T.c_Lookup.cl
  have naL := T.c_Lookup.na
  have gd_INSIDE := I.g
  obtain ⟨es, n, kd_INSIDE⟩ := I.d
  have h_sets_reason := ok_sets_reason (P := P) (base := base) T I
  have h_out_reason := ok_out_reason (P := P) (w := w) (base := base) T
  have h_calls_reason := ok_calls_reason (P := P) (w := w) (base := base) T
  have h_extra_reason := ok_extra_reason (P := P) (w := w) (base := base) T
  refine has_of T.d_lookup_reason sc_lookup_reason bd_lookup_reason (fun vs H Q E h => ?_) (fun f cdv A outer s H vs Q E hr h => ?_)
  · obtain ⟨S, ds, d, _, hd, ⟨fo, ks, k, rfl, _⟩, _⟩ := h
    rw [hd.len]
    rfl
  · obtain ⟨S, ds, d, hS, hd, ⟨fo, ks, k, rfl, kok, hg, rfl⟩, q⟩ := h
    obtain ⟨v1, _, rfl, h1, hd⟩ := hd.consE
    obtain ⟨v2, _, rfl, h2, hd⟩ := hd.consE
    cases hd.nilE
    obtain ⟨a, dx, u1, u2, u3, rfl, na, hA, k1, k2, k3⟩ := lkE h2
    cases k1
    obtain ⟨b, xs, rfl, hb, hl, hD⟩ := lstN k2
    have hll : xs.length = k.rules.length := by rw [hl]; exact List.length_map _
    have hz := kok.r
    obtain ⟨t, lo, hi, hns, hsq, hin⟩ := I.k k.kind kok.k
    have hD' : DqA S H xs (k.rules.map fun r => insD (adr mg "Rule") r.R.F) := by
      simp only [LkV.R, List.map_map] at hD
      exact hD
    refine ⟨_, (pss_cons (ps_if (pt_cmpR (op_notIn_kd kd_INSIDE) (peFld (K := K) rfl (pv 1) rfl) (pe_glob (by rfl) gd_INSIDE (v := .ref (adr mg "INSIDE")) rfl) (by rfl))
        pss_never
        pss_nil)
      (pss_cons (ps_if (pt_cmpR op_gt (pe_callB (clLen (K := K) rfl) (by rfl) T.z_len (by decide +kernel) (pa_cons (peFld (K := K) rfl (pv 1) rfl) pa_nil)) (pe_gv (by rfl) T.g_MOST_RULES) (nomark _))
        pss_never
        pss_nil)
      (pss_cons (ps_for PassesOwn.never rfl (piL (K := K) rfl (peFld (K := K) rfl (pv 1) rfl)) (pg_name (i := 2) sc_lookup_reason.nd rfl (.inl rfl))
        (pss_cons (ps_set (i := 3) sc_lookup_reason.nd rfl (.inl rfl) (peOrT (K := K) rfl (pe_h h_sets_reason (hr.mono (by decide)) (pa_cons (pv 0) (pa_cons (peFld (K := K) rfl (pv 1) rfl) (pa_cons (pv 2) pa_nil)))) (pe_one (pe_h h_out_reason (hr.mono (by decide)) (pa_cons (pv 0) (pa_cons (peFld (K := K) rfl (pv 1) rfl) (pa_cons (pv 2) pa_nil)))))))
      (pss_cons (ps_set (i := 3) sc_lookup_reason.nd rfl (.inl rfl) (peOrT (K := K) rfl (pv 3) (peOrT (K := K) rfl (pe_h h_calls_reason (hr.mono (by decide)) (pa_cons (pv 0) (pa_cons (peFld (K := K) rfl (pv 1) rfl) (pa_cons (pv 2) pa_nil)))) (pe_one (pe_h h_extra_reason (hr.mono (by decide)) (pa_cons (peFld (K := K) rfl (pv 1) rfl) (pa_cons (pv 2) pa_nil)))))))
      (pss_one (ps_if (pt_cmpR op_notN (pv 3) pe_non (nomark _))
        pss_never
        pss_nil)))))
      (pss_one (ps_ret pe_non))))), ?_⟩
    walk_at "fl.w"
    refine ⟨_, _, rfl, rfl, hns, ?_⟩
    simp only [Option.isSome_some, Bool.not_true]
    walk_at "fl.w"
    refine g_noB (by omega) ?_
    walk_at "fl.w"
    refine forK_l (xs := xs) (fun i σ' H' => (∃ u1 u2, σ' = [some v1, some (.ref a), u1, u2]) ∧ Same H H') ⟨⟨_, _, rfl⟩, L2.Same.refl _⟩ ?_ ?_ ?_
    · intro i σ' H' _ ⟨_, e⟩
      exact SqL.of (e _ _ hb)
    · intro i x σ' H' hxi ⟨⟨u1, u2, e1⟩, sm⟩
      subst e1
      obtain ⟨r, hr1, hx⟩ := (hD'.same sm).getM hxi
      have rok := kok.ro r (List.mem_of_getElem? hr1)
      have hA1 := sm _ _ hA
      have h1s := h1.same sm
      have hS1 := hS.same sm
      walk_at "fl.w"
      refine spD_app S [foD (cs mg) fo, .str k.kind, insD (adr mg "Rule") r.R.F] .none hS1 (.cons h1s (.cons (.str _) (.cons hx .nil))) ⟨fo, ks, k.kind, r, rfl, kok.k, rok, hg, rfl⟩ (fun v H2 sm2 hv => ?_)
      cases hv.nonE
      have hA2 := sm2 _ _ hA1
      have h1s := h1s.same sm2
      have hx := hx.same sm2
      have hS2 := hS1.same sm2
      walk_at "fl.w"
      refine spD_app S [foD (cs mg) fo, .str k.kind, insD (adr mg "Rule") r.R.F] .none hS2 (.cons h1s (.cons (.str _) (.cons hx .nil))) ⟨fo, ks, k.kind, r, rfl, kok.k, rok, hg, rfl⟩ (fun v H3 sm3 hv => ?_)
      cases hv.nonE
      have hA3 := sm3 _ _ hA2
      have h1s := h1s.same sm3
      have hx := hx.same sm3
      have hS3 := hS2.same sm3
      walk_at "fl.w"
      refine spD_app S [foD (cs mg) fo, .str k.kind, insD (adr mg "Rule") r.R.F] .none hS3 (.cons h1s (.cons (.str _) (.cons hx .nil))) ⟨fo, ks, k.kind, r, rfl, kok.k, rok, hg, rfl⟩ (fun v H4 sm4 hv => ?_)
      cases hv.nonE
      have hA4 := sm4 _ _ hA3
      have hx := hx.same sm4
      have hS4 := hS3.same sm4
      walk_at "fl.w"
      refine spD_app S [.str k.kind, insD (adr mg "Rule") r.R.F] .none hS4 (.cons (.str _) (.cons hx .nil)) ⟨k.kind, r, rfl, rfl⟩ (fun v H5 sm5 hv => ?_)
      cases hv.nonE
      walk_at "fl.w"

      exact ⟨⟨_, _, rfl⟩, (((sm.trans sm2).trans sm3).trans sm4).trans sm5⟩
    · intro σ' H' ⟨⟨u1, u2, e1⟩, sm⟩
      subst e1
      walk_at "fl.w"
      exact q _ _ sm .non
end

section
variable {P : Program} {w : World} {K : PySem.W.Frag} {mg : Str → Option Value} {base : Heap}
def fFv (c : Cs) (ds : List PyData) (d : PyData) : Prop := ∃ f : FoV, f.Ok ∧ ds = [foD c f.R] ∧ d = .none
def spNo : Sp := fun _ _ _ _ => False
theorem ok_first_lookup_fault (T : Txt K mg) (I : InsK K w mg) : Has P w K mg base 5 "first_lookup_fault" ps_first_lookup_fault (spD (fFv (cs mg))) := by
  obtain ⟨_, _, _, _, _, _, _, _, _, _, _, _, _, _, cF⟩ := T.c_Font
  have clF := cF.cl
  have naF := cF.na
  have h_lookup_reason := ok_lookup_reason (P := P) (base := base) T I
  refine has_of T.d_first_lookup_fault sc_first_lookup_fault bd_first_lookup_fault (fun vs H Q E h => ?_) (fun f cdv A outer s H vs Q E hr h => ?_)
  · obtain ⟨S, ds, d, _, hd, ⟨fo, fok, rfl, rfl⟩, _⟩ := h
    rw [hd.len]
    rfl
  · obtain ⟨S, ds, d, hS, hd, ⟨fo, fok, rfl, rfl⟩, q⟩ := h
    obtain ⟨v1, _, rfl, h1, hd⟩ := hd.consE
    cases hd.nilE
    have h1' := h1
    obtain ⟨fa, fdx, w1, w2, w3, w4, w5, w6, w7, w8, w9, rfl, fna, fA, j1, j2, j3, j4, j5, j6, j7, j8, j9⟩ := foE h1'
    obtain ⟨lb, ls, rfl, hlb, hll, hlD⟩ := lstN j4
    have hlD' : DqA S H ls (fo.lks.map fun k => lkD (cs mg) k.R) := by
      simp only [FoV.R, List.map_map] at hlD
      exact hlD
    have fk : FoK fo.R (fo.lks.map LkV.kind) := by
      refine ⟨?_, ?_, fun i k hk => ?_⟩
      · have := fok.g.2
        show (fo.glyphs.map GlV.R).length < 1000
        rw [List.length_map]
        omega
      · have := fok.l
        show (fo.lks.map LkV.R).length < 1000
        rw [List.length_map]
        omega
      · rw [List.getElem?_map] at hk
        cases hx : fo.lks[i]? with
        | none => rw [hx] at hk; cases hk
        | some lk =>
          rw [hx] at hk
          cases hk
          exact ⟨lk.R, by show (fo.lks.map LkV.R)[i]? = _; rw [List.getElem?_map, hx]; rfl, rfl⟩
    have hgl : fo.R.glyphs.length = fo.glyphs.length := List.length_map _
    refine ⟨_, (pss_cons (ps_for PassesOwn.never rfl (piEnum (K := K) rfl (by rfl) T.z_enumerate (pa_cons (peFld (K := K) rfl (pv 0) rfl) pa_nil)) (pgT (n := 2) (K := K) rfl (by rfl) (pgs_cons (pg_name (i := 1) sc_first_lookup_fault.nd rfl (.inl rfl)) (pgs_cons (pg_name (i := 2) sc_first_lookup_fault.nd rfl (.inl rfl)) pgs_nil)))
        (pss_cons (ps_set (i := 3) sc_first_lookup_fault.nd rfl (.inl rfl) (pe_h h_lookup_reason (hr.mono (by decide)) (pa_cons (pv 0) (pa_cons (pv 2) pa_nil))))
      (pss_one (ps_if (pt_cmpR op_notN (pv 3) pe_non (nomark _))
        pss_never
        pss_nil))))
      (pss_one (ps_ret pe_non))), ?_⟩
    walk_at "fl.w"
    refine forK_e (xs := ls) (fun i σ' H' => (∃ u1 u2 u3, σ' = [some (.ref fa), u1, u2, u3]) ∧ Same H H') ⟨⟨_, _, _, rfl⟩, L2.Same.refl _⟩ ?_ ?_ ?_
    · intro i σ' H' _ ⟨_, e⟩
      exact SqL.of (e _ _ hlb)
    · intro i x t σ' H' hxi ⟨⟨u1, u2, u3, e1⟩, sm⟩ ht
      subst e1
      obtain ⟨k, hk1, hx⟩ := (hlD'.same sm).getM hxi
      have sm2 : Same H (upd H' t (.tup [.int (i : Int), x])) := L2.Same.trans sm (Fl.Same.new ht)
      have h1s := h1.same sm2
      have hxs := hx.same (Fl.Same.new ht (o := .tup [.int (i : Int), x]))
      have hS2 := hS.same sm2
      refine g_gtup (SqT.of upd_same) rfl ?_
      walk_at "fl.w"
      refine spD_app S [foD (cs mg) fo.R, lkD (cs mg) k.R] .none hS2 (.cons h1s (.cons hxs .nil)) ⟨fo.R, _, k, rfl, by rw [hgl]; exact fok.lo k (List.mem_of_getElem? hk1), fk, rfl⟩ (fun v H3 sm3 hv => ?_)
      cases hv.nonE
      walk_at "fl.w"
      exact ⟨⟨_, _, _, rfl⟩, sm2.trans sm3⟩
    · intro σ' H' ⟨⟨u1, u2, u3, e1⟩, sm⟩
      subst e1
      walk_at "fl.w"
      exact q _ _ sm .non
def fMr (ds : List PyData) (d : PyData) : Prop := ∃ (L : List PyData) (lo hi : Int), ds = [.list L, .int lo, .int hi] ∧ lo ≤ L.length ∧ (L.length : Int) ≤ hi ∧ d = .none
theorem ok_many_reason (T : Txt K mg) : Has P w K mg base 1 "many_reason" ps_many_reason (spD fMr) := by
  refine has_of T.d_many_reason sc_many_reason bd_many_reason (fun vs H Q E h => ?_) (fun f cdv A outer s H vs Q E hr h => ?_)
  · obtain ⟨S, ds, d, _, hd, ⟨L, lo, hi, rfl, _⟩, _⟩ := h
    rw [hd.len]
    rfl
  · obtain ⟨S, ds, d, hS, hd, ⟨L, lo, hi, rfl, z1, z2, rfl⟩, q⟩ := h
    obtain ⟨v1, _, rfl, h1, hd⟩ := hd.consE
    obtain ⟨v2, _, rfl, h2, hd⟩ := hd.consE
    obtain ⟨v3, _, rfl, h3, hd⟩ := hd.consE
    cases hd.nilE
    cases h2.intE
    cases h3.intE
    obtain ⟨b, xs, rfl, _, hb, hD⟩ := h1.lstE
    have hl := hD.len
    refine ⟨_, (pss_cons (ps_if (pt_not (pt_chain op_le op_le (pv 1) (pe_callB (clLen (K := K) rfl) (by rfl) T.z_len (by decide +kernel) (pa_cons (pv 0) pa_nil)) (pv 2)))
        pss_never
        pss_nil)
      (pss_one (ps_ret pe_non))), ?_⟩
    walk_at "fl.w"
    refine g_yesB (by rw [hl]; exact z1) ?_
    walk_at "fl.w"
    refine g_nB (by rw [hl]; exact z2) ?_
    walk_at "fl.w"
    exact q _ _ (L2.Same.refl _) .non
theorem ok_unit_reason (T : Txt K mg) : Has P w K mg base 1 "unit_reason" ps_unit_reason (spD (fFv (cs mg))) := by
  obtain ⟨_, _, _, _, _, _, _, _, _, _, _, _, _, _, cF⟩ := T.c_Font
  have clF := cF.cl
  have naF := cF.na
  refine has_of T.d_unit_reason sc_unit_reason bd_unit_reason (fun vs H Q E h => ?_) (fun f cdv A outer s H vs Q E hr h => ?_)
  · obtain ⟨S, ds, d, _, hd, ⟨fo, fok, rfl, rfl⟩, _⟩ := h
    rw [hd.len]
    rfl
  · obtain ⟨S, ds, d, hS, hd, ⟨fo, fok, rfl, rfl⟩, q⟩ := h
    obtain ⟨v1, _, rfl, h1, hd⟩ := hd.consE
    cases hd.nilE
    obtain ⟨fa, fdx, w1, w2, w3, w4, w5, w6, w7, w8, w9, rfl, fna, fA, j1, j2, j3, j4, j5, j6, j7, j8, j9⟩ := foE h1
    cases j1
    refine ⟨_, (pss_cons (ps_if (pt_not (pt_chain op_le op_le pe_int (peFld (K := K) rfl (pv 0) rfl) (pe_gv (by rfl) T.g_FARTHEST)))
        pss_never
        pss_nil)
      (pss_one (ps_ret pe_non))), ?_⟩
    walk_at "fl.w"
    refine g_yesB (by decide) ?_
    walk_at "fl.w"
    refine g_nB (by decide) ?_
    walk_at "fl.w"
    exact q _ _ (L2.Same.refl _) .non
def fPl (ds : List PyData) (d : PyData) : Prop := ∃ x : Str, ds = [.str x, .none] ∧ d = .none
theorem ok_placed (T : Txt K mg) : Has P w K mg base 1 "placed" ps_placed (spD fPl) := by
  refine has_of T.d_placed sc_placed bd_placed (fun vs H Q E h => ?_) (fun f cdv A outer s H vs Q E hr h => ?_)
  · obtain ⟨S, ds, d, _, hd, ⟨x, rfl, rfl⟩, _⟩ := h
    rw [hd.len]
    rfl
  · obtain ⟨S, ds, d, hS, hd, ⟨x, rfl, rfl⟩, q⟩ := h
    obtain ⟨v1, _, rfl, h1, hd⟩ := hd.consE
    obtain ⟨v2, _, rfl, h2, hd⟩ := hd.consE
    cases hd.nilE
    cases h2.nonE
    refine ⟨_, (pss_cons (ps_if (pt_cmpR op_isN (pv 1) pe_non (nomark _))
        (pss_one (ps_ret pe_non))
        pss_nil)
      (pss_one (ps_ret (pe_tup (pa_cons (pv 0) (pa_cons (pv 1) pa_nil)))))), ?_⟩
    walk_at "fl.w"
    exact q _ _ (L2.Same.refl _) .non
theorem ok_chars_reason (T : Txt K mg) : Has P w K mg base 1 "chars_reason" ps_chars_reason (spD (fFv (cs mg))) := by
  obtain ⟨_, _, _, _, _, _, _, _, _, _, _, _, _, _, cF⟩ := T.c_Font
  have clF := cF.cl
  have naF := cF.na
  refine has_of T.d_chars_reason sc_chars_reason bd_chars_reason (fun vs H Q E h => ?_) (fun f cdv A outer s H vs Q E hr h => ?_)
  · obtain ⟨S, ds, d, _, hd, ⟨fo, fok, rfl, rfl⟩, _⟩ := h
    rw [hd.len]
    rfl
  · obtain ⟨S, ds, d, hS, hd, ⟨fo, fok, rfl, rfl⟩, q⟩ := h
    obtain ⟨v1, _, rfl, h1, hd⟩ := hd.consE
    cases hd.nilE
    obtain ⟨fa, fdx, w1, w2, w3, w4, w5, w6, w7, w8, w9, rfl, fna, fA, j1, j2, j3, j4, j5, j6, j7, j8, j9⟩ := foE h1
    obtain ⟨b, xs, rfl, _, hb, hD⟩ := j3.lstE
    cases hD.nilE
    refine ⟨_, (pss_cons (ps_set (i := 1) sc_chars_reason.nd rfl (.inl rfl) (pe_un un_neg pe_int))
      (pss_cons (ps_for PassesOwn.never rfl (piL (K := K) rfl (peFld (K := K) rfl (pv 0) rfl)) (pgT (n := 2) (K := K) rfl (by rfl) (pgs_cons (pg_name (i := 2) sc_chars_reason.nd rfl (.inl rfl)) (pgs_cons (pg_name (i := 3) sc_chars_reason.nd rfl (.inl rfl)) pgs_nil)))
        pss_never)
      (pss_one (ps_ret pe_non)))), ?_⟩
    walk_at "fl.w"
    refine forK_l (xs := []) (fun i σ' H' => H' = H) rfl (fun i σ' H' _ e => by subst e; exact SqL.of hb) (fun i x σ' H' hx => by simp at hx) (fun σ' H' e => ?_)
    subst e
    walk_at "fl.w"
    exact q _ _ (L2.Same.refl _) .non
theorem ok_axes_reason (T : Txt K mg) : Has P w K mg base 2 "axes_reason" ps_axes_reason (spD (fFv (cs mg))) := by
  obtain ⟨_, _, _, _, _, _, _, _, _, _, _, _, _, _, cF⟩ := T.c_Font
  have clF := cF.cl
  have naF := cF.na
  have h_many_reason := ok_many_reason (P := P) (w := w) (base := base) T
  refine has_of T.d_axes_reason sc_axes_reason bd_axes_reason (fun vs H Q E h => ?_) (fun f cdv A outer s H vs Q E hr h => ?_)
  · obtain ⟨S, ds, d, _, hd, ⟨fo, fok, rfl, rfl⟩, _⟩ := h
    rw [hd.len]
    rfl
  · obtain ⟨S, ds, d, hS, hd, ⟨fo, fok, rfl, rfl⟩, q⟩ := h
    obtain ⟨v1, _, rfl, h1, hd⟩ := hd.consE
    cases hd.nilE
    obtain ⟨fa, fdx, w1, w2, w3, w4, w5, w6, w7, w8, w9, rfl, fna, fA, j1, j2, j3, j4, j5, j6, j7, j8, j9⟩ := foE h1
    obtain ⟨b, xs, rfl, _, hb, hD⟩ := j6.lstE
    cases hD.nilE
    refine ⟨_, (pss_cons (ps_for PassesOwn.never rfl (piL (K := K) rfl (peFld (K := K) rfl (pv 0) rfl)) (pgT (n := 3) (K := K) rfl (by rfl) (pgs_cons (pg_name (i := 1) sc_axes_reason.nd rfl (.inl rfl)) (pgs_cons (pg_name (i := 2) sc_axes_reason.nd rfl (.inl rfl)) (pgs_cons (pg_name (i := 3) sc_axes_reason.nd rfl (.inl rfl)) pgs_nil))))
        pss_never)
      (pss_one (ps_ret (pe_h h_many_reason (hr.mono (by decide)) (pa_cons (peFld (K := K) rfl (pv 0) rfl) (pa_cons pe_int (pa_cons pe_int pa_nil))))))), ?_⟩
    walk_at "fl.w"
    refine forK_l (xs := []) (fun i σ' H' => σ' = L2.start N_axes_reason [.ref fa] ∧ H' = H) ⟨rfl, rfl⟩ (fun i σ' H' _ e => by rw [e.2]; exact SqL.of hb) (fun i x σ' H' hx => by simp at hx) (fun σ' H' e => ?_)
    obtain ⟨e, e2⟩ := e
    subst e e2
    walk_at "fl.w"
    exact spD_app S [.list [], .int 0, .int 3] .none hS (.cons j6 (.cons (.int _) (.cons (.int _) .nil))) ⟨_, _, _, rfl, by decide, by decide, rfl⟩ (fun v H3 sm3 hv => by cases hv.nonE; exact q _ _ sm3 .non)
theorem ok_regions_reason (T : Txt K mg) : Has P w K mg base 2 "regions_reason" ps_regions_reason (spD (fFv (cs mg))) := by
  obtain ⟨_, _, _, _, _, _, _, _, _, _, _, _, _, _, cF⟩ := T.c_Font
  have clF := cF.cl
  have naF := cF.na
  have h_many_reason := ok_many_reason (P := P) (w := w) (base := base) T
  refine has_of T.d_regions_reason sc_regions_reason bd_regions_reason (fun vs H Q E h => ?_) (fun f cdv A outer s H vs Q E hr h => ?_)
  · obtain ⟨S, ds, d, _, hd, ⟨fo, fok, rfl, rfl⟩, _⟩ := h
    rw [hd.len]
    rfl
  · obtain ⟨S, ds, d, hS, hd, ⟨fo, fok, rfl, rfl⟩, q⟩ := h
    obtain ⟨v1, _, rfl, h1, hd⟩ := hd.consE
    cases hd.nilE
    obtain ⟨fa, fdx, w1, w2, w3, w4, w5, w6, w7, w8, w9, rfl, fna, fA, j1, j2, j3, j4, j5, j6, j7, j8, j9⟩ := foE h1
    obtain ⟨b, xs, rfl, _, hb, hD⟩ := j7.lstE
    cases hD.nilE
    refine ⟨_, (pss_cons (ps_for PassesOwn.never rfl (piL (K := K) rfl (peFld (K := K) rfl (pv 0) rfl)) (pg_name (i := 1) sc_regions_reason.nd rfl (.inl rfl))
        pss_never)
      (pss_one (ps_ret (pe_h h_many_reason (hr.mono (by decide)) (pa_cons (peFld (K := K) rfl (pv 0) rfl) (pa_cons pe_int (pa_cons pe_int pa_nil))))))), ?_⟩
    walk_at "fl.w"
    refine forK_l (xs := []) (fun i σ' H' => σ' = L2.start N_regions_reason [.ref fa] ∧ H' = H) ⟨rfl, rfl⟩ (fun i σ' H' _ e => by rw [e.2]; exact SqL.of hb) (fun i x σ' H' hx => by simp at hx) (fun σ' H' e => ?_)
    obtain ⟨e, e2⟩ := e
    subst e e2
    walk_at "fl.w"
    exact spD_app S [.list [], .int 0, .int 8] .none hS (.cons j7 (.cons (.int _) (.cons (.int _) .nil))) ⟨_, _, _, rfl, by decide, by decide, rfl⟩ (fun v H3 sm3 hv => by cases hv.nonE; exact q _ _ sm3 .non)
theorem ok_functions_reason (T : Txt K mg) : Has P w K mg base 2 "functions_reason" ps_functions_reason (spD (fFv (cs mg))) := by
  obtain ⟨_, _, _, _, _, _, _, _, _, _, _, _, _, _, cF⟩ := T.c_Font
  have clF := cF.cl
  have naF := cF.na
  have h_many_reason := ok_many_reason (P := P) (w := w) (base := base) T
  refine has_of T.d_functions_reason sc_functions_reason bd_functions_reason (fun vs H Q E h => ?_) (fun f cdv A outer s H vs Q E hr h => ?_)
  · obtain ⟨S, ds, d, _, hd, ⟨fo, fok, rfl, rfl⟩, _⟩ := h
    rw [hd.len]
    rfl
  · obtain ⟨S, ds, d, hS, hd, ⟨fo, fok, rfl, rfl⟩, q⟩ := h
    obtain ⟨v1, _, rfl, h1, hd⟩ := hd.consE
    cases hd.nilE
    obtain ⟨fa, fdx, w1, w2, w3, w4, w5, w6, w7, w8, w9, rfl, fna, fA, j1, j2, j3, j4, j5, j6, j7, j8, j9⟩ := foE h1
    obtain ⟨b, xs, rfl, _, hb, hD⟩ := j8.lstE
    cases hD.nilE
    refine ⟨_, (pss_cons (ps_for PassesOwn.never rfl (piL (K := K) rfl (peFld (K := K) rfl (pv 0) rfl)) (pg_name (i := 1) sc_functions_reason.nd rfl (.inl rfl))
        pss_never)
      (pss_one (ps_ret (pe_h h_many_reason (hr.mono (by decide)) (pa_cons (peFld (K := K) rfl (pv 0) rfl) (pa_cons pe_int (pa_cons pe_int pa_nil))))))), ?_⟩
    walk_at "fl.w"
    refine forK_l (xs := []) (fun i σ' H' => σ' = L2.start N_functions_reason [.ref fa] ∧ H' = H) ⟨rfl, rfl⟩ (fun i σ' H' _ e => by rw [e.2]; exact SqL.of hb) (fun i x σ' H' hx => by simp at hx) (fun σ' H' e => ?_)
    obtain ⟨e, e2⟩ := e
    subst e e2
    walk_at "fl.w"
    exact spD_app S [.list [], .int 0, .int 12] .none hS (.cons j8 (.cons (.int _) (.cons (.int _) .nil))) ⟨_, _, _, rfl, by decide, by decide, rfl⟩ (fun v H3 sm3 hv => by cases hv.nonE; exact q _ _ sm3 .non)
theorem ok_presets_reason (T : Txt K mg) : Has P w K mg base 2 "presets_reason" ps_presets_reason (spD (fFv (cs mg))) := by
  obtain ⟨_, _, _, _, _, _, _, _, _, _, _, _, _, _, cF⟩ := T.c_Font
  have clF := cF.cl
  have naF := cF.na
  have h_many_reason := ok_many_reason (P := P) (w := w) (base := base) T
  refine has_of T.d_presets_reason sc_presets_reason bd_presets_reason (fun vs H Q E h => ?_) (fun f cdv A outer s H vs Q E hr h => ?_)
  · obtain ⟨S, ds, d, _, hd, ⟨fo, fok, rfl, rfl⟩, _⟩ := h
    rw [hd.len]
    rfl
  · obtain ⟨S, ds, d, hS, hd, ⟨fo, fok, rfl, rfl⟩, q⟩ := h
    obtain ⟨v1, _, rfl, h1, hd⟩ := hd.consE
    cases hd.nilE
    obtain ⟨fa, fdx, w1, w2, w3, w4, w5, w6, w7, w8, w9, rfl, fna, fA, j1, j2, j3, j4, j5, j6, j7, j8, j9⟩ := foE h1
    have j9' := j9
    obtain ⟨b, xs, rfl, _, hb, hD⟩ := j9'.lstE
    cases hD.nilE
    refine ⟨_, (pss_cons (ps_if (pt_not (pt_val (pe_callB (clAll (K := K) rfl rfl) (by rfl) T.z_all (by decide +kernel) (pa_cons (pe_lc (own := [("preset", 1)]) rfl sc_presets_reason.nd (piL (K := K) rfl (peFld (K := K) rfl (pv 0) rfl)) (blkOk_by (by kernel_rfl)) (fun _ _ _ _ _ => (pg_name (i := 1) sc_presets_reason.nd rfl (.inl rfl))) (fun _ _ _ _ _ => pts_nil) (fun _ _ _ _ _ => (pe_chain op_le op_le (pe_un un_neg pe_int) (pv 1) pe_int))) pa_nil))))
        pss_never
        pss_nil)
      (pss_one (ps_ret (pe_h h_many_reason (hr.mono (by decide)) (pa_cons (peFld (K := K) rfl (pv 0) rfl) (pa_cons pe_int (pa_cons pe_int pa_nil))))))), ?_⟩
    walk_at "fl.w"
    refine lcNil hS j9 (fun D H2 sm hq => ?_)
    refine allE hq ?_
    have fA := sm _ _ fA
    have j9 := j9.same sm
    have hS := hS.same sm
    walk_at "fl.w"
    exact spD_app S [.list [], .int 0, .int 32] .none hS (.cons j9 (.cons (.int _) (.cons (.int _) .nil))) ⟨_, _, _, rfl, by decide, by decide, rfl⟩ (fun v H3 sm3 hv => by cases hv.nonE; exact q _ _ (sm.trans sm3) .non)
end

section
variable {P : Program} {w : World} {K : PySem.W.Frag} {mg : Str → Option Value} {base : Heap}
def fC0 (ds : List PyData) (d : PyData) : Prop := ds = [.list []] ∧ d = .int 0
def fP0 (ds : List PyData) (d : PyData) : Prop := ds = [.list []] ∧ d = .bool true
theorem ok_count_points (T : Txt K mg) : Has P w K mg base 1 "count_points" ps_count_points (spD fC0) := by
  refine has_of T.d_count_points sc_count_points bd_count_points (fun vs H Q E h => ?_) (fun f cdv A outer s H vs Q E hr h => ?_)
  · obtain ⟨S, ds, d, _, hd, ⟨rfl, rfl⟩, _⟩ := h
    rw [hd.len]
    rfl
  · obtain ⟨S, ds, d, hS, hd, ⟨rfl, rfl⟩, q⟩ := h
    obtain ⟨v1, _, rfl, h1, hd⟩ := hd.consE
    cases hd.nilE
    have h1' := h1
    obtain ⟨b, xs, rfl, _, hb, hD⟩ := h1'.lstE
    cases hD.nilE
    refine ⟨_, (pss_one (ps_ret (pe_callB (clSum (K := K) rfl rfl) (by rfl) T.z_sum (by decide +kernel) (pa_cons (pe_lc (own := [("contour", 1)]) rfl sc_count_points.nd (piL (K := K) rfl (pv 0)) (blkOk_by (by kernel_rfl)) (fun _ _ _ _ _ => (pg_name (i := 1) sc_count_points.nd rfl (.inl rfl))) (fun _ _ _ _ _ => pts_nil) (fun _ _ _ _ _ => (pe_callB (clLen (K := K) rfl) (by rfl) T.z_len (by decide +kernel) (pa_cons (pv 1) pa_nil)))) pa_nil)))), ?_⟩
    walk_at "fl.w"
    refine lcNil hS h1 (fun D H2 sm hq => ?_)
    obtain ⟨b, xs, e, _, hb, hD⟩ := hq.lstE
    cases e
    cases hD.nilE
    refine g_sum (ns := []) (SqL.of hb) ?_
    exact q _ _ sm (.int _)
theorem ok_is_proper (T : Txt K mg) : Has P w K mg base 2 "is_proper" ps_is_proper (spD fP0) := by
  have h_count_points := ok_count_points (P := P) (w := w) (base := base) T
  refine has_of T.d_is_proper sc_is_proper bd_is_proper (fun vs H Q E h => ?_) (fun f cdv A outer s H vs Q E hr h => ?_)
  · obtain ⟨S, ds, d, _, hd, ⟨rfl, rfl⟩, _⟩ := h
    rw [hd.len]
    rfl
  · obtain ⟨S, ds, d, hS, hd, ⟨rfl, rfl⟩, q⟩ := h
    obtain ⟨v1, _, rfl, h1, hd⟩ := hd.consE
    cases hd.nilE
    have h1' := h1
    obtain ⟨b, xs, rfl, _, hb, hD⟩ := h1'.lstE
    cases hD.nilE
    refine ⟨_, (pss_cons (ps_if (PW.pt (pw_or (pt_cmpR op_gt (pe_callB (clLen (K := K) rfl) (by rfl) T.z_len (by decide +kernel) (pa_cons (pv 0) pa_nil)) (pe_gv (by rfl) T.g_MOST_CONTOURS) (nomark _)) (pw_or1 (pt_cmpR op_gt (pe_h h_count_points (hr.mono (by decide)) (pa_cons (pv 0) pa_nil)) (pe_gv (by rfl) T.g_MOST_POINTS) (nomark _)))))
        (pss_one (ps_ret pe_bl))
        pss_nil)
      (pss_cons (ps_for PassesOwn.never rfl (piL (K := K) rfl (pv 0)) (pg_name (i := 1) sc_is_proper.nd rfl (.inl rfl))
        (pss_cons (ps_if (pt_cmpR op_lt (pe_callB (clLen (K := K) rfl) (by rfl) T.z_len (by decide +kernel) (pa_cons (pv 1) pa_nil)) (pe_gv (by rfl) T.g_LEAST_OF_CONTOUR) (nomark _))
        (pss_one (ps_ret pe_bl))
        pss_nil)
      (pss_one (ps_for PassesOwn.never rfl (piL (K := K) rfl (pv 1)) (pgT (n := 3) (K := K) rfl (by rfl) (pgs_cons (pg_name (i := 2) sc_is_proper.nd rfl (.inl rfl)) (pgs_cons (pg_name (i := 3) sc_is_proper.nd rfl (.inl rfl)) (pgs_cons (pg_name (i := 4) sc_is_proper.nd rfl (.inl rfl)) pgs_nil))))
        (pss_one (ps_if (PW.pt (pw_or (pt_cmpR op_gt (pe_callB call_abs' (by rfl) T.z_abs (by decide +kernel) (pa_cons (pv 2) pa_nil)) (pe_gv (by rfl) T.g_FARTHEST) (nomark _)) (pw_or1 (pt_cmpR op_gt (pe_callB call_abs' (by rfl) T.z_abs (by decide +kernel) (pa_cons (pv 3) pa_nil)) (pe_gv (by rfl) T.g_FARTHEST) (nomark _)))))
        (pss_one (ps_ret pe_bl))
        pss_nil))))))
      (pss_one (ps_ret pe_bl)))), ?_⟩
    walk_at "fl.w"
    refine g_noB (by simp) ?_
    walk_at "fl.w"
    refine spD_app S [.list []] (.int 0) hS (.cons h1 .nil) ⟨rfl, rfl⟩ (fun v H3 sm3 hv => ?_)
    cases hv.intE
    have hb := sm3 _ _ hb
    walk_at "fl.w"
    refine g_noB (by decide) ?_
    walk_at "fl.w"
    refine forK_l (xs := []) (fun i σ' H' => H' = H3) rfl (fun i σ' H' _ e => by subst e; exact SqL.of hb) (fun i x σ' H' hx => by simp at hx) (fun σ' H' e => ?_)
    subst e
    walk_at "fl.w"
    exact q _ _ sm3 (.bl _)
def fGr (c : Cs) (ds : List PyData) (d : PyData) : Prop := ∃ (f : PyData) (g : GlV), ds = [f, glD c g.R] ∧ 0 ≤ g.adv ∧ g.adv ≤ 16384 ∧ d = .none
theorem ok_glyph_reason (T : Txt K mg) : Has P w K mg base 3 "glyph_reason" ps_glyph_reason (spD (fGr (cs mg))) := by
  obtain ⟨_, _, _, _, _, _, _, _, cG⟩ := T.c_Glyph
  have clG := cG.cl
  have naG := cG.na
  have h_is_proper := ok_is_proper (P := P) (w := w) (base := base) T
  have h_is_part := no_has (P := P) (w := w) (base := base) T.d_is_part sc_is_part bd_is_part
  have h_is_anchor := no_has (P := P) (w := w) (base := base) T.d_is_anchor sc_is_anchor bd_is_anchor
  have h_is_delta := no_has (P := P) (w := w) (base := base) T.d_is_delta sc_is_delta bd_is_delta
  have h_is_instruction := no_has (P := P) (w := w) (base := base) T.d_is_instruction sc_is_instruction bd_is_instruction
  refine has_of T.d_glyph_reason sc_glyph_reason bd_glyph_reason (fun vs H Q E h => ?_) (fun f cdv A outer s H vs Q E hr h => ?_)
  · obtain ⟨S, ds, d, _, hd, ⟨fo, g, rfl, _⟩, _⟩ := h
    rw [hd.len]
    rfl
  · obtain ⟨S, ds, d, hS, hd, ⟨fo, g, rfl, z1, z2, rfl⟩, q⟩ := h
    obtain ⟨v1, _, rfl, h1, hd⟩ := hd.consE
    obtain ⟨v2, _, rfl, h2, hd⟩ := hd.consE
    cases hd.nilE
    obtain ⟨a, dx, u1, u2, u3, u4, u5, u6, u7, rfl, na, hA, k1, k2, k3, k4, k5, k6, k7⟩ := glE h2
    cases k1
    obtain ⟨b3, _, rfl, _, hb3, _⟩ := k3.lstE
    obtain ⟨b4, _, rfl, _, hb4, _⟩ := k4.lstE
    obtain ⟨b6, _, rfl, _, hb6, _⟩ := k6.lstE
    obtain ⟨b7, _, rfl, _, hb7, _⟩ := k7.lstE
    refine ⟨_, (pss_cons (ps_if (pt_not (pt_chain op_le op_le pe_int (peFld (K := K) rfl (pv 1) rfl) (pe_gv (by rfl) T.g_FARTHEST)))
        pss_never
        pss_nil)
      (pss_cons (ps_if (pt_not (pt_val (pe_h h_is_proper (hr.mono (by decide)) (pa_cons (peFld (K := K) rfl (pv 1) rfl) pa_nil))))
        pss_never
        pss_nil)
      (pss_cons (ps_if (pt_not (pt_val (pe_callB (clAll (K := K) rfl rfl) (by rfl) T.z_all (by decide +kernel) (pa_cons (pe_lc (own := [("part", 2)]) rfl sc_glyph_reason.nd (piL (K := K) rfl (peFld (K := K) rfl (pv 1) rfl)) (blkOk_by (by kernel_rfl)) (fun _ _ _ _ _ => (pg_name (i := 2) sc_glyph_reason.nd rfl (.inl rfl))) (fun _ _ _ _ _ => pts_nil) (fun _ _ _ _ _ => (pe_h h_is_part (hr.mono (by decide)) (pa_cons (pv 0) (pa_cons (pv 2) pa_nil))))) pa_nil))))
        pss_never
        pss_nil)
      (pss_cons (ps_if (pt_not (pt_val (pe_callB (clAll (K := K) rfl rfl) (by rfl) T.z_all (by decide +kernel) (pa_cons (pe_lc (own := [("anchor", 3)]) rfl sc_glyph_reason.nd (piL (K := K) rfl (peFld (K := K) rfl (pv 1) rfl)) (blkOk_by (by kernel_rfl)) (fun _ _ _ _ _ => (pg_name (i := 3) sc_glyph_reason.nd rfl (.inl rfl))) (fun _ _ _ _ _ => pts_nil) (fun _ _ _ _ _ => (pe_h h_is_anchor (hr.mono (by decide)) (pa_cons (pv 3) pa_nil)))) pa_nil))))
        pss_never
        pss_nil)
      (pss_cons (ps_if (pt_not (pt_val (pe_callB (clAll (K := K) rfl rfl) (by rfl) T.z_all (by decide +kernel) (pa_cons (pe_lc (own := [("delta", 4)]) rfl sc_glyph_reason.nd (piL (K := K) rfl (peFld (K := K) rfl (pv 1) rfl)) (blkOk_by (by kernel_rfl)) (fun _ _ _ _ _ => (pg_name (i := 4) sc_glyph_reason.nd rfl (.inl rfl))) (fun _ _ _ _ _ => pts_nil) (fun _ _ _ _ _ => (pe_h h_is_delta (hr.mono (by decide)) (pa_cons (pv 0) (pa_cons (pv 1) (pa_cons (pv 4) pa_nil)))))) pa_nil))))
        pss_never
        pss_nil)
      (pss_cons (ps_if (pt_not (pt_val (pe_callB (clAll (K := K) rfl rfl) (by rfl) T.z_all (by decide +kernel) (pa_cons (pe_lc (own := [("step", 5)]) rfl sc_glyph_reason.nd (piL (K := K) rfl (peFld (K := K) rfl (pv 1) rfl)) (blkOk_by (by kernel_rfl)) (fun _ _ _ _ _ => (pg_name (i := 5) sc_glyph_reason.nd rfl (.inl rfl))) (fun _ _ _ _ _ => pts_nil) (fun _ _ _ _ _ => (pe_h h_is_instruction (hr.mono (by decide)) (pa_cons (pv 5) pa_nil)))) pa_nil))))
        pss_never
        pss_nil)
      (pss_one (ps_ret pe_non)))))))), ?_⟩
    walk_at "fl.w"
    refine g_yesB z1 ?_
    walk_at "fl.w"
    refine g_nB z2 ?_
    walk_at "fl.w"
    refine spD_app S [.list []] (.bool true) hS (.cons k2 .nil) ⟨rfl, rfl⟩ (fun v H2 sm2 hv => ?_)
    cases hv.blE
    have hA2 := sm2 _ _ hA
    have hb3' := sm2 _ _ hb3
    walk_at "fl.w"
    refine lcNil (hS.same sm2) (k3.same sm2) (fun D H3 sm3 hq => ?_)
    refine allE hq ?_
    have sm3 := sm2.trans sm3
    have hA3 := sm3 _ _ hA
    have hb4' := sm3 _ _ hb4
    walk_at "fl.w"
    refine lcNil (hS.same sm3) (k4.same sm3) (fun D H4 sm4 hq => ?_)
    refine allE hq ?_
    have sm4 := sm3.trans sm4
    have hA4 := sm4 _ _ hA
    have hb6' := sm4 _ _ hb6
    walk_at "fl.w"
    refine lcNil (hS.same sm4) (k6.same sm4) (fun D H5 sm5 hq => ?_)
    refine allE hq ?_
    have sm5 := sm4.trans sm5
    have hA5 := sm5 _ _ hA
    have hb7' := sm5 _ _ hb7
    walk_at "fl.w"
    refine lcNil (hS.same sm5) (k7.same sm5) (fun D H6 sm6 hq => ?_)
    refine allE hq ?_
    have sm6 := sm5.trans sm6
    walk_at "fl.w"
    exact q _ _ sm6 .non
theorem ok_first_glyph_fault (T : Txt K mg) : Has P w K mg base 4 "first_glyph_fault" ps_first_glyph_fault (spD (fFv (cs mg))) := by
  obtain ⟨_, _, _, _, _, _, _, _, _, _, _, _, _, _, cF⟩ := T.c_Font
  have clF := cF.cl
  have naF := cF.na
  have h_glyph_reason := ok_glyph_reason (P := P) (w := w) (base := base) T
  refine has_of T.d_first_glyph_fault sc_first_glyph_fault bd_first_glyph_fault (fun vs H Q E h => ?_) (fun f cdv A outer s H vs Q E hr h => ?_)
  · obtain ⟨S, ds, d, _, hd, ⟨fo, fok, rfl, rfl⟩, _⟩ := h
    rw [hd.len]
    rfl
  · obtain ⟨S, ds, d, hS, hd, ⟨fo, fok, rfl, rfl⟩, q⟩ := h
    obtain ⟨v1, _, rfl, h1, hd⟩ := hd.consE
    cases hd.nilE
    have h1' := h1
    obtain ⟨fa, fdx, w1, w2, w3, w4, w5, w6, w7, w8, w9, rfl, fna, fA, j1, j2, j3, j4, j5, j6, j7, j8, j9⟩ := foE h1'
    obtain ⟨lb, ls, rfl, hlb, hll, hlD⟩ := lstN j2
    have hlD' : DqA S H ls (fo.glyphs.map fun k => glD (cs mg) k.R) := by
      simp only [FoV.R, List.map_map] at hlD
      exact hlD
    refine ⟨_, (pss_cons (ps_for PassesOwn.never rfl (piEnum (K := K) rfl (by rfl) T.z_enumerate (pa_cons (peFld (K := K) rfl (pv 0) rfl) pa_nil)) (pgT (n := 2) (K := K) rfl (by rfl) (pgs_cons (pg_name (i := 1) sc_first_glyph_fault.nd rfl (.inl rfl)) (pgs_cons (pg_name (i := 2) sc_first_glyph_fault.nd rfl (.inl rfl)) pgs_nil)))
        (pss_cons (ps_set (i := 3) sc_first_glyph_fault.nd rfl (.inl rfl) (pe_h h_glyph_reason (hr.mono (by decide)) (pa_cons (pv 0) (pa_cons (pv 2) pa_nil))))
      (pss_one (ps_if (pt_cmpR op_notN (pv 3) pe_non (nomark _))
        pss_never
        pss_nil))))
      (pss_one (ps_ret pe_non))), ?_⟩
    walk_at "fl.w"
    refine forK_e (xs := ls) (fun i σ' H' => (∃ u1 u2 u3, σ' = [some (.ref fa), u1, u2, u3]) ∧ Same H H') ⟨⟨_, _, _, rfl⟩, L2.Same.refl _⟩ ?_ ?_ ?_
    · intro i σ' H' _ ⟨_, e⟩
      exact SqL.of (e _ _ hlb)
    · intro i x t σ' H' hxi ⟨⟨u1, u2, u3, e1⟩, sm⟩ ht
      subst e1
      obtain ⟨k, hk1, hx⟩ := (hlD'.same sm).getM hxi
      have sm2 : Same H (upd H' t (.tup [.int (i : Int), x])) := L2.Same.trans sm (Fl.Same.new ht)
      have h1s := h1.same sm2
      have hxs := hx.same (Fl.Same.new ht (o := .tup [.int (i : Int), x]))
      have hS2 := hS.same sm2
      have hgk := fok.ga k (List.mem_of_getElem? hk1)
      refine g_gtup (SqT.of upd_same) rfl ?_
      walk_at "fl.w"
      refine spD_app S [foD (cs mg) fo.R, glD (cs mg) k.R] .none hS2 (.cons h1s (.cons hxs .nil)) ⟨_, k, rfl, hgk.1, hgk.2, rfl⟩ (fun v H3 sm3 hv => ?_)
      cases hv.nonE
      walk_at "fl.w"
      exact ⟨⟨_, _, _, rfl⟩, sm2.trans sm3⟩
    · intro σ' H' ⟨⟨u1, u2, u3, e1⟩, sm⟩
      subst e1
      walk_at "fl.w"
      exact q _ _ sm .non
end

section
variable {P : Program} {w : World} {K : PySem.W.Frag} {mg : Str → Option Value} {base : Heap}
def spHp (c : Cs) : Sp := fun vs H Q _ => ∃ (S : List Addr) (v y : V) (g : GlV), vs = [v, y] ∧ Al S H ∧ Dq S H v (glD c g.R) ∧ ∀ H', Same H H' → Q (.bl true) H'
theorem ok_has_parts_in (T : Txt K mg) : Has P w K mg base 1 "has_parts_in" ps_has_parts_in (spHp (cs mg)) := by
  obtain ⟨_, _, _, _, _, _, _, _, cG⟩ := T.c_Glyph
  have clG := cG.cl
  have naG := cG.na
  refine has_of T.d_has_parts_in sc_has_parts_in bd_has_parts_in (fun vs H Q E h => ?_) (fun f cdv A outer s H vs Q E hr h => ?_)
  · obtain ⟨S, v, y, g, rfl, _⟩ := h
    rfl
  · obtain ⟨S, v, y, g, rfl, hS, h2, q⟩ := h
    obtain ⟨a, dx, u1, u2, u3, u4, u5, u6, u7, rfl, na, hA, k1, k2, k3, k4, k5, k6, k7⟩ := glE h2
    obtain ⟨b3, _, rfl, _, hb3, _⟩ := k3.lstE
    refine ⟨_, (pss_one (ps_ret (pe_callB (clAll (K := K) rfl rfl) (by rfl) T.z_all (by decide +kernel) (pa_cons (pe_lc (own := [("part", 2)]) rfl sc_has_parts_in.nd (piL (K := K) rfl (peFld (K := K) rfl (pv 0) rfl)) (blkOk_by (by kernel_rfl)) (fun _ _ _ _ _ => (pg_name (i := 2) sc_has_parts_in.nd rfl (.inl rfl))) (fun _ _ _ _ _ => pts_nil) (fun _ _ _ _ _ => (pe_cmp (pc_din (hu_of hr) (pe_ix (ixT (K := K) rfl) (pv 2) pe_int (fun _ _ => rfl)) (pv 1))))) pa_nil)))), ?_⟩
    walk_at "fl.w"
    refine lcNil hS k3 (fun D H2 sm2 hq => ?_)
    refine allE hq ?_
    exact q _ sm2
theorem ok_features_reason (T : Txt K mg) : Has P w K mg base 2 "features_reason" ps_features_reason (spD (fFv (cs mg))) := by
  obtain ⟨_, _, _, _, _, _, _, _, _, _, _, _, _, _, cF⟩ := T.c_Font
  have clF := cF.cl
  have naF := cF.na
  have h_many_reason := ok_many_reason (P := P) (w := w) (base := base) T
  have h_is_row_of_letters := no_has (P := P) (w := w) (base := base) T.d_is_row_of_letters sc_is_row_of_letters bd_is_row_of_letters
  have h_is_rising := no_has (P := P) (w := w) (base := base) T.d_is_rising sc_is_rising bd_is_rising
  refine has_of T.d_features_reason sc_features_reason bd_features_reason (fun vs H Q E h => ?_) (fun f cdv A outer s H vs Q E hr h => ?_)
  · obtain ⟨S, ds, d, _, hd, ⟨fo, fok, rfl, rfl⟩, _⟩ := h
    rw [hd.len]
    rfl
  · obtain ⟨S, ds, d, hS, hd, ⟨fo, fok, rfl, rfl⟩, q⟩ := h
    obtain ⟨v1, _, rfl, h1, hd⟩ := hd.consE
    cases hd.nilE
    obtain ⟨fa, fdx, w1, w2, w3, w4, w5, w6, w7, w8, w9, rfl, fna, fA, j1, j2, j3, j4, j5, j6, j7, j8, j9⟩ := foE h1
    have j5' := j5
    obtain ⟨b, xs, rfl, _, hb, hD⟩ := j5'.lstE
    cases hD.nilE
    refine ⟨_, (pss_cons (ps_setLc (i := 2) (own := [("name", 1), ("_", 4)]) rfl sc_features_reason.nd rfl rfl (sw_true rfl rfl rfl (by decide +kernel)) (piL (K := K) rfl (peFld (K := K) rfl (pv 0) rfl)) (blkOk_by (by kernel_rfl)) (fun _ _ _ _ _ => (pgT (n := 2) (K := K) rfl (by rfl) (pgs_cons (pg_name (i := 1) sc_features_reason.nd rfl (.inl rfl)) (pgs_cons (pg_name (i := 4) sc_features_reason.nd rfl (.inl rfl)) pgs_nil)))) (fun _ _ _ _ _ => pts_nil) (fun _ _ _ _ _ => (pv 1)))
      (pss_cons (ps_if (pt_cmpR op_lt (RZ.pe_lenSetI (by rfl) T.z_len (by rfl) T.z_set (pv 2)) (pe_callB (clLen (K := K) rfl) (by rfl) T.z_len (by decide +kernel) (pa_cons (pv 2) pa_nil)) (nomark _))
        pss_never
        pss_nil)
      (pss_cons (ps_for PassesOwn.never rfl (piL (K := K) rfl (peFld (K := K) rfl (pv 0) rfl)) (pgT (n := 2) (K := K) rfl (by rfl) (pgs_cons (pg_name (i := 1) sc_features_reason.nd rfl (.inl rfl)) (pgs_cons (pg_name (i := 3) sc_features_reason.nd rfl (.inl rfl)) pgs_nil)))
        pss_never)
      (pss_one (ps_ret (pe_h h_many_reason (hr.mono (by decide)) (pa_cons (peFld (K := K) rfl (pv 0) rfl) (pa_cons pe_int (pa_cons pe_int pa_nil))))))))), ?_⟩
    walk_at "fl.w"
    refine lcNil hS j5 (fun D H2 sm hq => ?_)
    have fA2 := sm _ _ fA
    have hb2 := sm _ _ hb
    have j52 := j5.same sm
    have hS2 := hS.same sm
    obtain ⟨b2, ys, e, _, hb3, hD2⟩ := hq.lstE
    cases e
    cases hD2.nilE
    walk_at "fl.w"
    unfold RZ.tLenSetI
    walk_at "fl.w"
    refine ⟨D, [], rfl, SqL.of hb3, .nil, by decide, ?_⟩
    walk_at "fl.w"
    refine g_noB (by decide) ?_
    walk_at "fl.w"
    refine forK_l (xs := []) (fun i σ' H' => σ' = (L2.start N_features_reason [.ref fa]).set 2 (some (.ref D)) ∧ H' = H2) ⟨rfl, rfl⟩ (fun i σ' H' _ e => by rw [e.2]; exact SqL.of hb2) (fun i x σ' H' hx => by simp at hx) (fun σ' H' e => ?_)
    obtain ⟨e, e2⟩ := e
    subst e e2
    walk_at "fl.w"
    exact spD_app S [.list [], .int 0, .int 12] .none hS2 (.cons j52 (.cons (.int _) (.cons (.int _) .nil))) ⟨_, _, _, rfl, by decide, by decide, rfl⟩ (fun v H3 sm3 hv => by cases hv.nonE; exact q _ _ (sm.trans sm3) .non)
end

section
variable {P : Program} {w : World} {K : PySem.W.Frag} {mg : Str → Option Value} {base : Heap}
def spDep (c : Cs) : Sp := fun vs H Q _ => ∃ (S : List Addr) (v : V) (gs : List GlV), vs = [v] ∧ Al S H ∧ Dq S H v (.list (gs.map fun g => glD c g.R)) ∧ gs.length ≤ 60 ∧ ∀ p H' kvs, Same H H' → H' p = some (.dK kvs) → kvs.length = gs.length → Q (.ref p) H'
theorem ok_depths_of (T : Txt K mg) : Has P w K mg base 2 "depths_of" ps_depths_of (spDep (cs mg)) := by
  have h_has_parts_in := ok_has_parts_in (P := P) (w := w) (base := base) T
  refine has_of T.d_depths_of sc_depths_of bd_depths_of (fun vs H Q E h => ?_) (fun f cdv A outer s H vs Q E hr h => ?_)
  · obtain ⟨S, v, gs, rfl, _⟩ := h
    rfl
  · obtain ⟨S, v, gs, rfl, hS, h1, hz, q⟩ := h
    obtain ⟨a, xs, rfl, ha, hl, hD⟩ := lstN h1
    refine ⟨_, (pss_cons (ps_set (i := 1) sc_depths_of.nd rfl (.inr rfl) pe_dnewK)
      (pss_cons (ps_for PassesOwn.never rfl (pi_range1 (by rfl) T.z_range (pa_cons (pe_op op_add (pe_gv (by rfl) T.g_DEEPEST) pe_int) pa_nil)) (pg_name (i := 2) sc_depths_of.nd rfl (.inl rfl))
        (pss_cons (ps_setLc (i := 4) (own := [("k", 3)]) rfl sc_depths_of.nd rfl rfl (sw_true rfl rfl rfl (by decide +kernel)) (pi_range1 (by rfl) T.z_range (pa_cons (pe_callB (clLen (K := K) rfl) (by rfl) T.z_len (by decide +kernel) (pa_cons (pv 0) pa_nil)) pa_nil)) (blkOk_by (by kernel_rfl)) (fun _ _ _ _ _ => (pg_name (i := 3) sc_depths_of.nd rfl (.inl rfl))) (fun _ _ _ _ _ => (pts_one (PW.pt (pw_and (pt_cmp (pc_dnotin (hu_of hr) (pv 3) (pv 1))) (pw_and1 (pt_val (pe_h h_has_parts_in (hr.mono (by decide)) (pa_cons (pe_ix (ixL (K := K) rfl) (pv 0) (pv 3) (fun _ _ => rfl)) (pa_cons (pv 1) pa_nil))))))))) (fun _ _ _ _ _ => (pv 3)))
      (pss_one (ps_for PassesOwn.never rfl (piL (K := K) rfl (pv 4)) (pg_name (i := 3) sc_depths_of.nd rfl (.inl rfl))
        (pss_one (ps_dput (hu_of hr) (pv 1) (pv 3) (pv 2) rfl))))))
      (pss_one (ps_ret (pv 1))))), ?_⟩
    walk_at "fl.w"
    unfold tDNewK
    intro p hp
    have hap : a ≠ p := fun e => by rw [e, hp] at ha; cases ha
    have alp : Al (p :: S) (upd H p (.dK [])) := .cons (by rw [upd_same]; simp) (hS.same (Fl.Same.new hp))
    have hDp : DqA (p :: S) (upd H p (.dK [])) xs (gs.map fun g => glD (cs mg) g.R) := (hD.new hp).same (Fl.Same.new hp)
    have hap0 : upd H p (.dK []) a = some (.lst xs) := by rw [upd_ne hap]; exact ha
    walk_at "fl.w"
    refine forK_r (fun i σ' H' => (∃ u2 u3 u4, σ' = [some (.ref a), some (.ref p), u2, u3, u4]) ∧ Fr [p] (upd H p (.dK [])) H' ∧ H' p = some (.dK (kv0 (if i = 0 then 0 else gs.length)))) ⟨⟨_, _, _, rfl⟩, Fr.refl, upd_same⟩ ?_ ?_
    · intro i σ' H' hi ⟨⟨u2, u3, u4, e⟩, hf, hpk⟩
      subst e
      have al1 : Al (p :: S) H' := alp.fr hf (.cons (by rw [hpk]; simp) .nil)
      have hD1 : DqA (p :: S) H' xs (gs.map fun g => glD (cs mg) g.R) := hDp.fr (hf.mono fun b m => by rw [show b = p by simpa using m]; exact List.mem_cons_self)
      have ha1 : H' a = some (.lst xs) := hf a _ (by simpa using hap) hap0
      walk_at "fl.w"
      refine lcR (S := p :: S) (fun j => if i = 0 then some (.int (j : Int)) else none) al1 (by omega) ?_ ?_
      · intro D j H2 hDn hj sm al R N hR hN
        have hj' : j < xs.length := by omega
        obtain ⟨g, hg⟩ : ∃ g, gs[j]? = some g := ⟨_, List.getElem?_eq_getElem (by omega)⟩
        obtain ⟨x, hx, hxD⟩ := (hD1.same sm).getD (i := j) (by rw [List.getElem?_map, hg]; rfl)
        have hat : atI xs (j : Int) = some x := atI_nat (j := j) hx
        have ha2 := sm _ _ ha1
        have hp2 := sm _ _ hpk
        rw [Int.zero_add]
        refine g_name ⟨rfl, ?_⟩
        walk_at "fl.w"
        refine g_tB (g_dn ?_)
        walk_at "fl.w"
        rcases Decidable.em (i = 0) with h0 | h0
        · rw [if_pos h0] at hp2
          refine ⟨p, _, rfl, DGet.k (k := .inl (j : Int)) hp2, ?_⟩
          rw [kv0_none (Nat.zero_le _)]
          simp only [Option.isSome_none, Bool.not_false]
          walk_at "fl.w"
          refine ⟨p :: S, _, _, g, rfl, al1.same sm, hxD, fun H3 sm3 => ?_⟩
          walk_at "fl.w"
          exact hR _ _ _ (by rw [if_pos h0]) sm3 (.int _)
        · rw [if_neg h0] at hp2
          refine ⟨p, _, rfl, DGet.k (k := .inl (j : Int)) hp2, ?_⟩
          obtain ⟨v, hv⟩ := kv0_some (show j < gs.length by omega)
          rw [hv]
          simp only [Option.isSome_some, Bool.not_true]
          walk_at "fl.w"
          exact hN (by rw [if_neg h0]) _ (L2.Same.refl _)
      · intro D H2 sm hDn hq
        have hp2 := sm _ _ hpk
        walk_at "fl.w"
        obtain ⟨_, ys, e, _, hy, hY⟩ := hq.lstE
        cases e
        have hDp' : D ≠ p := fun e => by rw [e, hpk] at hDn; cases hDn
        walk_at "fl.w"
        rcases Decidable.em (i = 0) with h0 | h0
        · subst h0
          simp only [if_pos] at hY hp2
          rw [fm_some] at hY
          have hly : ys.length = xs.length := by rw [hY.len]; simp
          refine forK_l (xs := ys) (fun j σ' Hq => (∃ u3, σ' = [some (.ref a), some (.ref p), some (.int (0 : Int)), u3, some (.ref D)]) ∧ Fr [p] H2 Hq ∧ Hq p = some (.dK (kv0 j))) ⟨⟨_, rfl⟩, Fr.refl, hp2⟩ ?_ ?_ ?_
          · intro j σ' Hq _ ⟨_, f2, _⟩
            exact SqL.of (f2 _ _ (by simpa using hDp') hy)
          · intro j x σ' Hq hx ⟨⟨u3, e⟩, f2, hk⟩
            subst e
            obtain ⟨d, hd1, hd2⟩ := hY.get hx
            have hjl := (List.getElem?_eq_some_iff.mp hx).1
            rw [List.getElem?_map, List.getElem?_range (by omega)] at hd1
            cases hd1
            cases hd2.intE
            walk_at "fl.w"
            refine g_dp ?_
            walk_at "fl.w"
            refine ⟨p, _, rfl, DPut.k (k := .inl (j : Int)) hk (by rw [kv0_len]; have : (1000 : Nat) ≤ sizeLine := by decide
                                                                   omega), ?_⟩
            refine ⟨⟨_, rfl⟩, f2.trans (Fr.upd (by simp)), ?_⟩
            rw [upd_same, putK_new _ (kv0_none (Nat.le_refl _)), kv0_succ]
          · intro σ' Hq ⟨⟨u3, e⟩, f2, hk⟩
            subst e
            refine ⟨⟨_, _, _, rfl⟩, (hf.trans (Fr.same sm)).trans f2, ?_⟩
            rw [hk, hly, hl]
            rfl
        · simp only [if_neg h0] at hY hp2
          rw [fm_none] at hY
          cases hY.nilE
          refine forK_l (xs := []) (fun j σ' Hq => (∃ u2 u3, σ' = [some (.ref a), some (.ref p), u2, u3, some (.ref D)]) ∧ Hq = H2) ⟨⟨_, _, rfl⟩, rfl⟩ (fun j σ' Hq _ e => by rw [e.2]; exact SqL.of hy) (fun j x σ' Hq hx => by simp at hx) (fun σ' Hq e => ?_)
          obtain ⟨⟨u2, u3, e⟩, e2⟩ := e
          subst e e2
          exact ⟨⟨_, _, _, rfl⟩, hf.trans (Fr.same sm), by rw [hp2, if_neg (Nat.succ_ne_zero i)]⟩
    · intro σ' H' ⟨⟨u2, u3, u4, e⟩, hf, hpk⟩
      subst e
      walk_at "fl.w"
      exact q p H' _ (sm_of hp (by exact fun b o n e => hf b o n (by rw [upd_ne (by simpa using n)]; exact e))) hpk (by rw [kv0_len]; rfl)
theorem ok_parts_reason (T : Txt K mg) : Has P w K mg base 3 "parts_reason" ps_parts_reason (spD (fFv (cs mg))) := by
  obtain ⟨_, _, _, _, _, _, _, _, _, _, _, _, _, _, cF⟩ := T.c_Font
  have clF := cF.cl
  have naF := cF.na
  have h_depths_of := ok_depths_of (P := P) (w := w) (base := base) T
  refine has_of T.d_parts_reason sc_parts_reason bd_parts_reason (fun vs H Q E h => ?_) (fun f cdv A outer s H vs Q E hr h => ?_)
  · obtain ⟨S, ds, d, _, hd, ⟨fo, fok, rfl, rfl⟩, _⟩ := h
    rw [hd.len]
    rfl
  · obtain ⟨S, ds, d, hS, hd, ⟨fo, fok, rfl, rfl⟩, q⟩ := h
    obtain ⟨v1, _, rfl, h1, hd⟩ := hd.consE
    cases hd.nilE
    obtain ⟨fa, fdx, w1, w2, w3, w4, w5, w6, w7, w8, w9, rfl, fna, fA, j1, j2, j3, j4, j5, j6, j7, j8, j9⟩ := foE h1
    have j2' : Dq S H w2 (.list (fo.glyphs.map fun g => glD (cs mg) g.R)) := by
      simp only [FoV.R, List.map_map] at j2
      exact j2
    obtain ⟨b, xs, rfl, hb, hl, _⟩ := lstN j2'
    refine ⟨_, (pss_cons (ps_if (pt_cmpR op_lt (pe_callB call_lenD (by rfl) T.z_len (by decide +kernel) (pa_cons (pe_h h_depths_of (hr.mono (by decide)) (pa_cons (peFld (K := K) rfl (pv 0) rfl) pa_nil)) pa_nil)) (pe_callB (clLen (K := K) rfl) (by rfl) T.z_len (by decide +kernel) (pa_cons (peFld (K := K) rfl (pv 0) rfl) pa_nil)) (nomark _))
        pss_never
        pss_nil)
      (pss_one (ps_ret pe_non))), ?_⟩
    walk_at "fl.w"
    refine ⟨S, _, fo.glyphs, rfl, hS, j2', fok.g.2, fun p H2 kvs sm hp hk => ?_⟩
    have fA2 := sm _ _ fA
    have hb2 := sm _ _ hb
    walk_at "fl.w"
    refine ⟨p, kvs, rfl, hp, ?_⟩
    walk_at "fl.w"
    refine g_noB (by omega) ?_
    walk_at "fl.w"
    exact q _ _ sm .non
end

section
variable {P : Program} {w : World} {K : PySem.W.Frag} {mg : Str → Option Value} {base : Heap}
theorem ok_first_fault (T : Txt K mg) (I : InsK K w mg) : Has P w K mg base 6 "first_fault" ps_first_fault (spD (fFv (cs mg))) := by
  obtain ⟨_, _, _, _, _, _, _, _, _, _, _, _, _, _, cF⟩ := T.c_Font
  have clF := cF.cl
  have naF := cF.na
  have h_unit_reason := ok_unit_reason (P := P) (w := w) (base := base) T
  have h_placed := ok_placed (P := P) (w := w) (base := base) T
  have h_many_reason := ok_many_reason (P := P) (w := w) (base := base) T
  have h_first_glyph_fault := ok_first_glyph_fault (P := P) (w := w) (base := base) T
  have h_parts_reason := ok_parts_reason (P := P) (w := w) (base := base) T
  have h_chars_reason := ok_chars_reason (P := P) (w := w) (base := base) T
  have h_first_lookup_fault := ok_first_lookup_fault (P := P) (base := base) T I
  have h_features_reason := ok_features_reason (P := P) (w := w) (base := base) T
  have h_axes_reason := ok_axes_reason (P := P) (w := w) (base := base) T
  have h_regions_reason := ok_regions_reason (P := P) (w := w) (base := base) T
  have h_functions_reason := ok_functions_reason (P := P) (w := w) (base := base) T
  have h_presets_reason := ok_presets_reason (P := P) (w := w) (base := base) T
  refine has_of T.d_first_fault sc_first_fault bd_first_fault (fun vs H Q E h => ?_) (fun f cdv A outer s H vs Q E hr h => ?_)
  · obtain ⟨S, ds, d, _, hd, ⟨fo, fok, rfl, rfl⟩, _⟩ := h
    rw [hd.len]
    rfl
  · obtain ⟨S, ds, d, hS_0, hd, ⟨fo, fok, rfl, rfl⟩, q⟩ := h
    obtain ⟨v1, _, rfl, h1_0, hd⟩ := hd.consE
    cases hd.nilE
    obtain ⟨fa, fdx, w1, w2, w3, w4, w5, w6, w7, w8, w9, rfl, fna, fA_0, j1, j2, j3, j4, j5, j6, j7, j8, j9⟩ := foE h1_0
    refine ⟨_, (pss_one (ps_ret (peOrT (K := K) rfl (pe_h h_placed (hr.mono (by decide)) (pa_cons pe_str (pa_cons (pe_h h_unit_reason (hr.mono (by decide)) (pa_cons (pv 0) pa_nil)) pa_nil))) (peOrT (K := K) rfl (pe_h h_placed (hr.mono (by decide)) (pa_cons pe_str (pa_cons (pe_h h_many_reason (hr.mono (by decide)) (pa_cons (peFld (K := K) rfl (pv 0) rfl) (pa_cons pe_int (pa_cons pe_int pa_nil)))) pa_nil))) (peOrT (K := K) rfl (pe_h h_first_glyph_fault (hr.mono (by decide)) (pa_cons (pv 0) pa_nil)) (peOrT (K := K) rfl (pe_h h_placed (hr.mono (by decide)) (pa_cons pe_str (pa_cons (pe_h h_parts_reason (hr.mono (by decide)) (pa_cons (pv 0) pa_nil)) pa_nil))) (peOrT (K := K) rfl (pe_h h_placed (hr.mono (by decide)) (pa_cons pe_str (pa_cons (pe_h h_chars_reason (hr.mono (by decide)) (pa_cons (pv 0) pa_nil)) pa_nil))) (peOrT (K := K) rfl (pe_h h_placed (hr.mono (by decide)) (pa_cons pe_str (pa_cons (pe_h h_many_reason (hr.mono (by decide)) (pa_cons (peFld (K := K) rfl (pv 0) rfl) (pa_cons pe_int (pa_cons pe_int pa_nil)))) pa_nil))) (peOrT (K := K) rfl (pe_h h_first_lookup_fault (hr.mono (by decide)) (pa_cons (pv 0) pa_nil)) (peOrT (K := K) rfl (pe_h h_placed (hr.mono (by decide)) (pa_cons pe_str (pa_cons (pe_h h_features_reason (hr.mono (by decide)) (pa_cons (pv 0) pa_nil)) pa_nil))) (peOrT (K := K) rfl (pe_h h_placed (hr.mono (by decide)) (pa_cons pe_str (pa_cons (pe_h h_axes_reason (hr.mono (by decide)) (pa_cons (pv 0) pa_nil)) pa_nil))) (peOrT (K := K) rfl (pe_h h_placed (hr.mono (by decide)) (pa_cons pe_str (pa_cons (pe_h h_regions_reason (hr.mono (by decide)) (pa_cons (pv 0) pa_nil)) pa_nil))) (peOrT (K := K) rfl (pe_h h_placed (hr.mono (by decide)) (pa_cons pe_str (pa_cons (pe_h h_functions_reason (hr.mono (by decide)) (pa_cons (pv 0) pa_nil)) pa_nil))) (pe_one (pe_h h_placed (hr.mono (by decide)) (pa_cons pe_str (pa_cons (pe_h h_presets_reason (hr.mono (by decide)) (pa_cons (pv 0) pa_nil)) pa_nil))))))))))))))))), ?_⟩
    walk_at "fl.w"
    refine spD_app S [foD (cs mg) fo.R] .none hS_0 (.cons h1_0 .nil) ⟨fo, fok, rfl, rfl⟩ (fun v G1 sm1 hv => ?_)
    cases hv.nonE
    have smA_1 : Same H G1 := sm1
    have h1_1 := h1_0.same sm1
    have hS_1 := hS_0.same sm1
    have fA_1 := sm1 _ _ fA_0
    walk_at "fl.w"
    refine spD_app S [.str _, .none] .none hS_1 (.cons (.str _) (.cons .non .nil)) ⟨_, rfl, rfl⟩ (fun v G2 sm2 hv => ?_)
    cases hv.nonE
    have smA_2 : Same H G2 := smA_1.trans sm2
    have h1_2 := h1_1.same sm2
    have hS_2 := hS_1.same sm2
    have fA_2 := sm2 _ _ fA_1
    walk_at "fl.w"
    have j2_2 := j2.same smA_2
    refine spD_app S [.list ((fo.glyphs.map GlV.R).map (glD (cs mg))), .int 1, .int 60] .none hS_2 (.cons j2_2 (.cons (.int _) (.cons (.int _) .nil))) ⟨_, _, _, rfl, by rw [List.length_map, List.length_map]; have := fok.g; omega, by rw [List.length_map, List.length_map]; have := fok.g; omega, rfl⟩ (fun v G3 sm3 hv => ?_)
    cases hv.nonE
    have smA_3 : Same H G3 := smA_2.trans sm3
    have h1_3 := h1_2.same sm3
    have hS_3 := hS_2.same sm3
    have fA_3 := sm3 _ _ fA_2
    walk_at "fl.w"
    refine spD_app S [.str _, .none] .none hS_3 (.cons (.str _) (.cons .non .nil)) ⟨_, rfl, rfl⟩ (fun v G4 sm4 hv => ?_)
    cases hv.nonE
    have smA_4 : Same H G4 := smA_3.trans sm4
    have h1_4 := h1_3.same sm4
    have hS_4 := hS_3.same sm4
    have fA_4 := sm4 _ _ fA_3
    walk_at "fl.w"
    refine spD_app S [foD (cs mg) fo.R] .none hS_4 (.cons h1_4 .nil) ⟨fo, fok, rfl, rfl⟩ (fun v G5 sm5 hv => ?_)
    cases hv.nonE
    have smA_5 : Same H G5 := smA_4.trans sm5
    have h1_5 := h1_4.same sm5
    have hS_5 := hS_4.same sm5
    have fA_5 := sm5 _ _ fA_4
    walk_at "fl.w"
    refine spD_app S [foD (cs mg) fo.R] .none hS_5 (.cons h1_5 .nil) ⟨fo, fok, rfl, rfl⟩ (fun v G6 sm6 hv => ?_)
    cases hv.nonE
    have smA_6 : Same H G6 := smA_5.trans sm6
    have h1_6 := h1_5.same sm6
    have hS_6 := hS_5.same sm6
    have fA_6 := sm6 _ _ fA_5
    walk_at "fl.w"
    refine spD_app S [.str _, .none] .none hS_6 (.cons (.str _) (.cons .non .nil)) ⟨_, rfl, rfl⟩ (fun v G7 sm7 hv => ?_)
    cases hv.nonE
    have smA_7 : Same H G7 := smA_6.trans sm7
    have h1_7 := h1_6.same sm7
    have hS_7 := hS_6.same sm7
    have fA_7 := sm7 _ _ fA_6
    walk_at "fl.w"
    refine spD_app S [foD (cs mg) fo.R] .none hS_7 (.cons h1_7 .nil) ⟨fo, fok, rfl, rfl⟩ (fun v G8 sm8 hv => ?_)
    cases hv.nonE
    have smA_8 : Same H G8 := smA_7.trans sm8
    have h1_8 := h1_7.same sm8
    have hS_8 := hS_7.same sm8
    have fA_8 := sm8 _ _ fA_7
    walk_at "fl.w"
    refine spD_app S [.str _, .none] .none hS_8 (.cons (.str _) (.cons .non .nil)) ⟨_, rfl, rfl⟩ (fun v G9 sm9 hv => ?_)
    cases hv.nonE
    have smA_9 : Same H G9 := smA_8.trans sm9
    have h1_9 := h1_8.same sm9
    have hS_9 := hS_8.same sm9
    have fA_9 := sm9 _ _ fA_8
    walk_at "fl.w"
    have j4_9 := j4.same smA_9
    refine spD_app S [.list ((fo.lks.map LkV.R).map (lkD (cs mg))), .int 0, .int 20] .none hS_9 (.cons j4_9 (.cons (.int _) (.cons (.int _) .nil))) ⟨_, _, _, rfl, by rw [List.length_map, List.length_map]; have := fok.l; omega, by rw [List.length_map, List.length_map]; have := fok.l; omega, rfl⟩ (fun v G10 sm10 hv => ?_)
    cases hv.nonE
    have smA_10 : Same H G10 := smA_9.trans sm10
    have h1_10 := h1_9.same sm10
    have hS_10 := hS_9.same sm10
    have fA_10 := sm10 _ _ fA_9
    walk_at "fl.w"
    refine spD_app S [.str _, .none] .none hS_10 (.cons (.str _) (.cons .non .nil)) ⟨_, rfl, rfl⟩ (fun v G11 sm11 hv => ?_)
    cases hv.nonE
    have smA_11 : Same H G11 := smA_10.trans sm11
    have h1_11 := h1_10.same sm11
    have hS_11 := hS_10.same sm11
    have fA_11 := sm11 _ _ fA_10
    walk_at "fl.w"
    refine spD_app S [foD (cs mg) fo.R] .none hS_11 (.cons h1_11 .nil) ⟨fo, fok, rfl, rfl⟩ (fun v G12 sm12 hv => ?_)
    cases hv.nonE
    have smA_12 : Same H G12 := smA_11.trans sm12
    have h1_12 := h1_11.same sm12
    have hS_12 := hS_11.same sm12
    have fA_12 := sm12 _ _ fA_11
    walk_at "fl.w"
    refine spD_app S [foD (cs mg) fo.R] .none hS_12 (.cons h1_12 .nil) ⟨fo, fok, rfl, rfl⟩ (fun v G13 sm13 hv => ?_)
    cases hv.nonE
    have smA_13 : Same H G13 := smA_12.trans sm13
    have h1_13 := h1_12.same sm13
    have hS_13 := hS_12.same sm13
    have fA_13 := sm13 _ _ fA_12
    walk_at "fl.w"
    refine spD_app S [.str _, .none] .none hS_13 (.cons (.str _) (.cons .non .nil)) ⟨_, rfl, rfl⟩ (fun v G14 sm14 hv => ?_)
    cases hv.nonE
    have smA_14 : Same H G14 := smA_13.trans sm14
    have h1_14 := h1_13.same sm14
    have hS_14 := hS_13.same sm14
    have fA_14 := sm14 _ _ fA_13
    walk_at "fl.w"
    refine spD_app S [foD (cs mg) fo.R] .none hS_14 (.cons h1_14 .nil) ⟨fo, fok, rfl, rfl⟩ (fun v G15 sm15 hv => ?_)
    cases hv.nonE
    have smA_15 : Same H G15 := smA_14.trans sm15
    have h1_15 := h1_14.same sm15
    have hS_15 := hS_14.same sm15
    have fA_15 := sm15 _ _ fA_14
    walk_at "fl.w"
    refine spD_app S [.str _, .none] .none hS_15 (.cons (.str _) (.cons .non .nil)) ⟨_, rfl, rfl⟩ (fun v G16 sm16 hv => ?_)
    cases hv.nonE
    have smA_16 : Same H G16 := smA_15.trans sm16
    have h1_16 := h1_15.same sm16
    have hS_16 := hS_15.same sm16
    have fA_16 := sm16 _ _ fA_15
    walk_at "fl.w"
    refine spD_app S [foD (cs mg) fo.R] .none hS_16 (.cons h1_16 .nil) ⟨fo, fok, rfl, rfl⟩ (fun v G17 sm17 hv => ?_)
    cases hv.nonE
    have smA_17 : Same H G17 := smA_16.trans sm17
    have h1_17 := h1_16.same sm17
    have hS_17 := hS_16.same sm17
    have fA_17 := sm17 _ _ fA_16
    walk_at "fl.w"
    refine spD_app S [.str _, .none] .none hS_17 (.cons (.str _) (.cons .non .nil)) ⟨_, rfl, rfl⟩ (fun v G18 sm18 hv => ?_)
    cases hv.nonE
    have smA_18 : Same H G18 := smA_17.trans sm18
    have h1_18 := h1_17.same sm18
    have hS_18 := hS_17.same sm18
    have fA_18 := sm18 _ _ fA_17
    walk_at "fl.w"
    refine spD_app S [foD (cs mg) fo.R] .none hS_18 (.cons h1_18 .nil) ⟨fo, fok, rfl, rfl⟩ (fun v G19 sm19 hv => ?_)
    cases hv.nonE
    have smA_19 : Same H G19 := smA_18.trans sm19
    have h1_19 := h1_18.same sm19
    have hS_19 := hS_18.same sm19
    have fA_19 := sm19 _ _ fA_18
    walk_at "fl.w"
    refine spD_app S [.str _, .none] .none hS_19 (.cons (.str _) (.cons .non .nil)) ⟨_, rfl, rfl⟩ (fun v G20 sm20 hv => ?_)
    cases hv.nonE
    have smA_20 : Same H G20 := smA_19.trans sm20
    have h1_20 := h1_19.same sm20
    have hS_20 := hS_19.same sm20
    have fA_20 := sm20 _ _ fA_19
    walk_at "fl.w"
    refine spD_app S [foD (cs mg) fo.R] .none hS_20 (.cons h1_20 .nil) ⟨fo, fok, rfl, rfl⟩ (fun v G21 sm21 hv => ?_)
    cases hv.nonE
    have smA_21 : Same H G21 := smA_20.trans sm21
    have h1_21 := h1_20.same sm21
    have hS_21 := hS_20.same sm21
    have fA_21 := sm21 _ _ fA_20
    walk_at "fl.w"
    refine spD_app S [.str _, .none] .none hS_21 (.cons (.str _) (.cons .non .nil)) ⟨_, rfl, rfl⟩ (fun v G22 sm22 hv => ?_)
    cases hv.nonE
    have smA_22 : Same H G22 := smA_21.trans sm22
    have h1_22 := h1_21.same sm22
    have hS_22 := hS_21.same sm22
    have fA_22 := sm22 _ _ fA_21
    walk_at "fl.w"
    exact q _ _ smA_22 .non
end

section
variable {P : Program} {w : World} {K : PySem.W.Frag} {mg : Str → Option Value} {base : Heap}
theorem ok_Font (T : Txt K mg) (V : FoR → Prop) (h_first_fault : Has P w K mg base 7 "first_fault" ["font"] (spD (fFf (cs mg) V))) {e1 e2 e3 e4 e5 e6 e7 : Addr} (c : ClsI K mg "Font" "Font.__init__" s_Font fl_Font (kw_Font e1 e2 e3 e4 e5 e6 e7)) : InI P w K mg base 8 "Font" "Font.__init__" s_Font fl_Font (kw_Font e1 e2 e3 e4 e5 e6 e7) ps_Font (spI K (adr mg "Font") (fFo (cs mg) V)) := by
  have cl := c.cl
  have na := c.na
  have h_tuples_of := ok_tuples_of (P := P) (w := w) (base := base) T
  have h_copied_glyph := ok_copied_glyph (P := P) (w := w) (base := base) T
  have h_copied_lookup := ok_copied_lookup (P := P) (w := w) (base := base) T
  refine inI_of c sc_Font (fun vs H Q E h => ?_) (fun f cdv A outer s H vs Q E hr h => ?_)
  · obtain ⟨S, x, dx, ws, ds, fs, rfl, _, _, _, hd, ⟨gs, ch, ls, fe, ax, re, fn, pr, fo, rfl, _⟩, q⟩ := h
    obtain ⟨v1, _, rfl, _, hd⟩ := hd.consE
    obtain ⟨v2, _, rfl, _, hd⟩ := hd.consE
    obtain ⟨v3, _, rfl, _, hd⟩ := hd.consE
    obtain ⟨v4, _, rfl, _, hd⟩ := hd.consE
    obtain ⟨v5, _, rfl, _, hd⟩ := hd.consE
    obtain ⟨v6, _, rfl, _, hd⟩ := hd.consE
    obtain ⟨v7, _, rfl, _, hd⟩ := hd.consE
    obtain ⟨v8, _, rfl, _, hd⟩ := hd.consE
    obtain ⟨v9, _, rfl, _, hd⟩ := hd.consE
    cases hd.nilE
    rfl
  · obtain ⟨S, x, dx, ws, ds, fs, rfl, hxS, hS, hx, hd, ⟨gs, ch, ls, fe, ax, re, fn, pr, fo, rfl, fok, fV, sg, sc, sl, sf, sa, sr, sn, sp, rfl⟩, q⟩ := h
    obtain ⟨v1, _, rfl, h1, hd⟩ := hd.consE
    obtain ⟨v2, _, rfl, h2, hd⟩ := hd.consE
    obtain ⟨v3, _, rfl, h3, hd⟩ := hd.consE
    obtain ⟨v4, _, rfl, h4, hd⟩ := hd.consE
    obtain ⟨v5, _, rfl, h5, hd⟩ := hd.consE
    obtain ⟨v6, _, rfl, h6, hd⟩ := hd.consE
    obtain ⟨v7, _, rfl, h7, hd⟩ := hd.consE
    obtain ⟨v8, _, rfl, h8, hd⟩ := hd.consE
    obtain ⟨v9, _, rfl, h9, hd⟩ := hd.consE
    cases hd.nilE
    have I0 := InitAt.start hx hS hxS
    refine ⟨_, (pss_cons (psFld (K := K) rfl (pv 0) (pv 1) rfl)
      (pss_cons (psFld (K := K) rfl (pv 0) (pe_lc (own := [("glyph", 11)]) rfl sc_Font.nd (piS (K := K) rfl (pv 2)) (blkOk_by (by kernel_rfl)) (fun _ _ _ _ _ => (pg_name (i := 11) sc_Font.nd rfl (.inl rfl))) (fun _ _ _ _ _ => pts_nil) (fun _ _ _ _ _ => (pe_h h_copied_glyph (hr.mono (by decide)) (pa_cons (pv 11) pa_nil)))) rfl)
      (pss_cons (psFld (K := K) rfl (pv 0) (pe_h h_tuples_of (hr.mono (by decide)) (pa_cons (pv 3) pa_nil)) rfl)
      (pss_cons (psFld (K := K) rfl (pv 0) (pe_lc (own := [("lookup", 12)]) rfl sc_Font.nd (piS (K := K) rfl (pv 4)) (blkOk_by (by kernel_rfl)) (fun _ _ _ _ _ => (pg_name (i := 12) sc_Font.nd rfl (.inl rfl))) (fun _ _ _ _ _ => pts_nil) (fun _ _ _ _ _ => (pe_h h_copied_lookup (hr.mono (by decide)) (pa_cons (pv 12) pa_nil)))) rfl)
      (pss_cons (psFld (K := K) rfl (pv 0) (pe_lc (own := [("name", 13), ("numbers", 14)]) rfl sc_Font.nd (piS (K := K) rfl (pv 5)) (blkOk_by (by kernel_rfl)) (fun _ _ _ _ _ => (pgT (n := 2) (K := K) rfl (by rfl) (pgs_cons (pg_name (i := 13) sc_Font.nd rfl (.inl rfl)) (pgs_cons (pg_name (i := 14) sc_Font.nd rfl (.inl rfl)) pgs_nil)))) (fun _ _ _ _ _ => pts_nil) (fun _ _ _ _ _ => (pe_tup (pa_cons (pv 13) (pa_cons (pe_callTy (clLstOf (K := K) rfl) (by rfl) T.z_list (by decide +kernel) (pa_cons (pv 14) pa_nil)) pa_nil))))) rfl)
      (pss_cons (psFld (K := K) rfl (pv 0) (pe_h h_tuples_of (hr.mono (by decide)) (pa_cons (pv 6) pa_nil)) rfl)
      (pss_cons (psFld (K := K) rfl (pv 0) (pe_lc (own := [("region", 15)]) rfl sc_Font.nd (piS (K := K) rfl (pv 7)) (blkOk_by (by kernel_rfl)) (fun _ _ _ _ _ => (pg_name (i := 15) sc_Font.nd rfl (.inl rfl))) (fun _ _ _ _ _ => pts_nil) (fun _ _ _ _ _ => (pe_h h_tuples_of (hr.mono (by decide)) (pa_cons (pv 15) pa_nil)))) rfl)
      (pss_cons (psFld (K := K) rfl (pv 0) (pe_lc (own := [("function", 16)]) rfl sc_Font.nd (piS (K := K) rfl (pv 8)) (blkOk_by (by kernel_rfl)) (fun _ _ _ _ _ => (pg_name (i := 16) sc_Font.nd rfl (.inl rfl))) (fun _ _ _ _ _ => pts_nil) (fun _ _ _ _ _ => (pe_h h_tuples_of (hr.mono (by decide)) (pa_cons (pv 16) pa_nil)))) rfl)
      (pss_cons (psFld (K := K) rfl (pv 0) (pe_callTy (clLstOf (K := K) rfl) (by rfl) T.z_list (by decide +kernel) (pa_cons (pv 9) pa_nil)) rfl)
      (pss_cons (ps_set (i := 10) sc_Font.nd rfl (.inl rfl) (pe_h h_first_fault (hr.mono (by decide)) (pa_cons (pv 0) pa_nil)))
      (pss_one (ps_if (pt_cmpR op_notN (pv 10) pe_non (nomark _))
        pss_never
        pss_nil)))))))))))), ?_⟩
    walk_at "fl.w"
    have I1 := I0.put (I0.dqO (h1.dq fok.u)) "unit" rfl
    walk_at "fl.w"
    refine lcS (S := S) (fun i => (fo.glyphs[i]?).map (glD (cs mg))) I1.al (I1.deO h2) sg (by rw [List.length_map]; exact fok.g) (fun R h => ⟨_, rfl, h⟩) ?_ ?_
    · intro D i x2 e H2 hD he sm al hxe R N hR hN
      obtain ⟨r, hr1, rfl⟩ := at_map he
      refine g_name ⟨rfl, ?_⟩
      walk_at "fl.w"
      refine spD_app (D :: S) [_] _ al (.cons hxe .nil) ⟨r, fok.go r (List.mem_of_getElem? hr1), rfl, rfl⟩ (fun v H3 sm3 hv => ?_)
      exact hR _ _ _ (by rw [hr1]; rfl) sm3 hv
    intro D H2 sm2 hD hq2
    rw [fm_ltA (by rw [List.length_map])] at hq2
    have I1s := I1.same sm2
    walk_at "fl.w"
    have I2 := I1s.put hq2 "glyphs" rfl
    walk_at "fl.w"
    refine spE_app S [ch] (ltD fo.chars) I2.al (.cons (I2.deO h3) .nil) ⟨ch, _, rfl, sc, rfl⟩ (fun v H3 sm3 hv3 => ?_)
    have I2s := I2.same sm3
    walk_at "fl.w"
    have I3 := I2s.put hv3 "chars" rfl
    walk_at "fl.w"
    refine lcS (S := S) (fun i => (fo.lookups[i]?).map (lkD (cs mg))) I3.al (I3.deO h4) sl (by rw [List.length_map]; exact fok.l) (fun R h => ⟨_, rfl, h⟩) ?_ ?_
    · intro D i x2 e H2 hD he sm al hxe R N hR hN
      obtain ⟨r, hr1, rfl⟩ := at_map he
      refine g_name ⟨rfl, ?_⟩
      walk_at "fl.w"
      refine spD_app (D :: S) [_] _ al (.cons hxe .nil) ⟨r, fok.lo r (List.mem_of_getElem? hr1), rfl, rfl⟩ (fun v H3 sm3 hv => ?_)
      exact hR _ _ _ (by rw [hr1]; rfl) sm3 hv
    intro D4 H4 sm4 hD4 hq4
    rw [fm_ltA (by rw [List.length_map])] at hq4
    have I3s := I3.same sm4
    walk_at "fl.w"
    have I4 := I3s.put hq4 "lookups" rfl
    walk_at "fl.w"
    obtain ⟨xs, e1, e2, e3, e4⟩ := sf
    refine lcS (S := S) (fun i => (fo.features[i]?).map feD) I4.al (I4.deO h5) e1 (by omega) (fun R h => ⟨_, rfl, h⟩) ?_ ?_
    · intro D i x2 e H2 hD he sm al hxe R N hR hN
      obtain ⟨l, hl⟩ : ∃ l, fo.features[i]? = some l := by
        have := (List.getElem?_eq_some_iff.mp he).1
        exact ⟨fo.features[i]'(by omega), List.getElem?_eq_getElem _⟩
      obtain ⟨m, rfl, hm1, hm2⟩ := e3 i e l he hl
      obtain ⟨a, zs, rfl, na', ha, hA⟩ := hxe.tupE
      obtain ⟨n1, zs, rfl, hn1, hA⟩ := hA.consE
      obtain ⟨n2, zs, rfl, hn2, hA⟩ := hA.consE
      cases hA.nilE
      walk_at "fl.w"
      refine ⟨rfl, ?_⟩
      walk_at "fl.w"
      refine lstOf_app al hn2 hm1 fun p H3 sm3 hv => ?_
      have hn1' := hn1.same sm3
      walk_at "fl.w"
      rename_i t ht
      exact hR _ _ _ (by rw [hl]; rfl) (sm3.trans (Fl.Same.new ht)) (Dq.newT (al.same sm3) ht (.cons hn1' (.cons hv .nil)))
    intro D5 H5 sm5 hD5 hq5
    rw [fm_ltA e2] at hq5
    have I4s := I4.same sm5
    walk_at "fl.w"
    have I5 := I4s.put hq5 "features" rfl
    walk_at "fl.w"
    refine spE_app S [ax] (ltD fo.axes) I5.al (.cons (I5.deO h6) .nil) ⟨ax, _, rfl, sa, rfl⟩ (fun v H6 sm6 hv6 => ?_)
    have I5s := I5.same sm6
    walk_at "fl.w"
    have I6 := I5s.put hv6 "axes" rfl
    walk_at "fl.w"
    obtain ⟨xs, e1, e2, e3, e4⟩ := sr
    refine lcS (S := S) (fun i => (fo.regions[i]?).map ltD) I6.al (I6.deO h7) e1 (by omega) (fun R h => ⟨_, rfl, h⟩) ?_ ?_
    · intro D i x2 e H2 hD he sm al hxe R N hR hN
      obtain ⟨l, hl⟩ : ∃ l, fo.regions[i]? = some l := by
        have := (List.getElem?_eq_some_iff.mp he).1
        exact ⟨fo.regions[i]'(by omega), List.getElem?_eq_getElem _⟩
      refine g_name ⟨rfl, ?_⟩
      walk_at "fl.w"
      refine spE_app (D :: S) [e] (ltD l) al (.cons (.inl hxe) .nil) ⟨e, l, rfl, e3 i e l he hl, rfl⟩ (fun v H3 sm3 hv => ?_)
      exact hR _ _ _ (by rw [hl]; rfl) sm3 hv
    intro D7 H7 sm7 hD7 hq7
    rw [fm_ltA e2] at hq7
    have I6s := I6.same sm7
    walk_at "fl.w"
    have I7 := I6s.put hq7 "regions" rfl
    walk_at "fl.w"
    obtain ⟨xs, e1, e2, e3, e4⟩ := sn
    refine lcS (S := S) (fun i => (fo.functions[i]?).map ltD) I7.al (I7.deO h8) e1 (by omega) (fun R h => ⟨_, rfl, h⟩) ?_ ?_
    · intro D i x2 e H2 hD he sm al hxe R N hR hN
      obtain ⟨l, hl⟩ : ∃ l, fo.functions[i]? = some l := by
        have := (List.getElem?_eq_some_iff.mp he).1
        exact ⟨fo.functions[i]'(by omega), List.getElem?_eq_getElem _⟩
      refine g_name ⟨rfl, ?_⟩
      walk_at "fl.w"
      refine spE_app (D :: S) [e] (ltD l) al (.cons (.inl hxe) .nil) ⟨e, l, rfl, e3 i e l he hl, rfl⟩ (fun v H3 sm3 hv => ?_)
      exact hR _ _ _ (by rw [hl]; rfl) sm3 hv
    intro D8 H8 sm8 hD8 hq8
    rw [fm_ltA e2] at hq8
    have I7s := I7.same sm8
    walk_at "fl.w"
    have I8 := I7s.put hq8 "functions" rfl
    walk_at "fl.w"
    refine lstOf_de I8.al (I8.deO h9) sp.1 fun v9 H9 sm9 hv9 => ?_
    have I8s := I8.same sm9
    walk_at "fl.w"
    have I9 := I8s.put hv9 "presets" rfl
    walk_at "fl.w"
    have hF := I9.fin
    refine spD_app _ [foD (cs mg) fo] .none hF.1 (.cons hF.2 .nil) ⟨fo, fV, rfl, rfl⟩ (fun v H10 sm10 hv10 => ?_)
    cases hv10.nonE
    have I10 := I9.same sm10
    walk_at "fl.w"
    exact q _ _ I10.fr I10.hx I10.dq
end

section
variable {P : Program} {w : World} {K : PySem.W.Frag} {mg : Str → Option Value} {base : Heap}
/-- Rule(inside, back=, ahead=, out=, calls=) -/
theorem mk_Rule_law {e1 e2 e3 e4 : Addr} {sp : Sp} (h : InI P w K mg base 2 "Rule" "Rule.__init__" s_Rule fl_Rule (kw_Rule e1 e2 e3 e4) ps_Rule sp) :
    MkI P w K mg base 2 "Rule" 1 ["back", "ahead", "out", "calls"] (fun vs zs => pick [0, 1, 3, 4, 5, 6, 2] (vs ++ ([.int 0] ++ zs))) sp :=
  h.make 1 ["back", "ahead", "out", "calls"] [("extra", .int 0)] [0, 1, 3, 4, 5, 6, 2] (by simp) (by simp [kw_Rule]) fun D doc pm an cdv ct us mv ws h1 h2 h3 => match us, h1, mv, h2, ws, h3 with | [_, _], _, [_], _, [_, _, _, _], _ => ⟨_, _, _, _, _, _, rfl, rfl, rfl⟩
/-- Glyph(advance, outline, mark=) -/
theorem mk_Glyph_law {e1 e2 e3 e4 : Addr} {sp : Sp} (h : InI P w K mg base 2 "Glyph" "Glyph.__init__" s_Glyph fl_Glyph (kw_Glyph e1 e2 e3 e4) ps_Glyph sp) :
    MkI P w K mg base 2 "Glyph" 2 ["mark"] (fun vs zs => pick [0, 1, 2, 3, 4, 7, 5, 6] (vs ++ ([.ref e1, .ref e2, .ref e3, .ref e4] ++ zs))) sp :=
  h.make 2 ["mark"] [("parts", .ref e1), ("anchors", .ref e2), ("deltas", .ref e3), ("hint", .ref e4)] [0, 1, 2, 3, 4, 7, 5, 6] (by simp) (by simp [kw_Glyph]) fun D doc pm an cdv ct us mv ws h1 h2 h3 => match us, h1, mv, h2, ws, h3 with | [_, _, _], _, [_, _, _, _], _, [_], _ => ⟨_, _, _, _, _, _, rfl, rfl, ⟨_, _, _, _, _, _, rfl, rfl, ⟨_, _, _, _, _, _, rfl, rfl, ⟨_, _, _, _, _, _, rfl, rfl, rfl⟩⟩⟩⟩
/-- Font(unit, glyphs, lookups=) -/
theorem mk_Font_law {e1 e2 e3 e4 e5 e6 e7 : Addr} {sp : Sp} (h : InI P w K mg base 8 "Font" "Font.__init__" s_Font fl_Font (kw_Font e1 e2 e3 e4 e5 e6 e7) ps_Font sp) :
    MkI P w K mg base 8 "Font" 2 ["lookups"] (fun vs zs => pick [0, 1, 2, 3, 9, 4, 5, 6, 7, 8] (vs ++ ([.ref e1, .ref e3, .ref e4, .ref e5, .ref e6, .ref e7] ++ zs))) sp :=
  h.make 2 ["lookups"] [("chars", .ref e1), ("features", .ref e3), ("axes", .ref e4), ("regions", .ref e5), ("functions", .ref e6), ("presets", .ref e7)] [0, 1, 2, 3, 9, 4, 5, 6, 7, 8] (by simp) (by simp [kw_Font]) fun D doc pm an cdv ct us mv ws h1 h2 h3 => match us, h1, mv, h2, ws, h3 with | [_, _, _], _, [_, _, _, _, _, _], _, [_], _ => ⟨_, _, _, _, _, _, rfl, rfl, ⟨_, _, _, _, _, _, rfl, rfl, ⟨_, _, _, _, _, _, rfl, rfl, ⟨_, _, _, _, _, _, rfl, rfl, ⟨_, _, _, _, _, _, rfl, rfl, ⟨_, _, _, _, _, _, rfl, rfl, rfl⟩⟩⟩⟩⟩⟩
def fLf (c : Cs) (ds : List PyData) (d : PyData) : Prop := ∃ f : FoV, f.Ok ∧ ds = [.int f.glyphs.length, .list ((f.glyphs.map GlV.mark).map .bool), .list ((f.glyphs.map GlV.adv).map .int), .list (f.lks.map lkT)] ∧ d = foD c f.R
theorem ok_law_font (T : Txt K mg) (I : InsK K w mg) : Has P w K mg base 10 "_law_font" ps_law_font (spD (fLf (cs mg))) := by
  obtain ⟨f1, f2, f3, f4, f5, f6, f7, n1, n2, n3, n4, n5, n6, n7, cF⟩ := T.c_Font
  obtain ⟨g1, g2, g3, g4, o1, o2, o3, o4, cG⟩ := T.c_Glyph
  obtain ⟨r1, r2, r3, r4, q1, q2, q3, q4, cR⟩ := T.c_Rule
  have cL := T.c_Lookup
  have mk_Rule_1_back_ahead_out_calls := mk_Rule_law (ok_Rule (P := P) (w := w) (base := base) T cR)
  have mk_Glyph_2_mark := mk_Glyph_law (ok_Glyph (P := P) (w := w) (base := base) T cG)
  have mk_Lookup_2_ignore := mk_Lookup_all (ok_Lookup (P := P) (w := w) (base := base) T cL)
  have h_ff := ok_first_fault (P := P) (base := base) T I
  have mk_Font_2_lookups := mk_Font_law (ok_Font (P := P) (w := w) (base := base) T (fun fo => ∃ f : FoV, f.Ok ∧ fo = f.R) (by
    obtain ⟨f, fd, a, b, c, d⟩ := (h_ff.mono (k := 7) (by decide)).ex
    refine ⟨f, fd, ?_, b, c, d⟩
    exact fnok_weak a fun vs H Q E h => by
      obtain ⟨S, ds, d, hS, hd, ⟨fo, ⟨f, fok, rfl⟩, rfl, rfl⟩, q⟩ := h
      exact ⟨S, _, _, hS, hd, ⟨f, fok, rfl, rfl⟩, q⟩) cF)
  refine has_of T.d_law_font sc_law_font bd_law_font (fun vs H Q E h => ?_) (fun f cdv A outer s H vs Q E hr h => ?_)
  · obtain ⟨S, ds, d, _, hd, ⟨fo, fok, rfl, rfl⟩, _⟩ := h
    rw [hd.len]
    rfl
  · obtain ⟨S, ds, d, hS, hd, ⟨fo, fok, rfl, rfl⟩, q⟩ := h
    obtain ⟨v1, _, rfl, h1, hd⟩ := hd.consE
    obtain ⟨v2, _, rfl, h2, hd⟩ := hd.consE
    obtain ⟨v3, _, rfl, h3, hd⟩ := hd.consE
    obtain ⟨v4, _, rfl, h4, hd⟩ := hd.consE
    cases hd.nilE
    cases h1.intE
    have hn := fok.g
    have hl := fok.l
    obtain ⟨l4, zs, rfl, n4', hz4, hZ⟩ := h4.lstE
    obtain ⟨l2, ms, rfl, nn2, hz2, hM⟩ := h2.lstE
    obtain ⟨l3, as, rfl, nn3, hz3, hAd⟩ := h3.lstE
    have hlz := hZ.len
    rw [List.length_map] at hlz
    refine ⟨_, (pss_cons (ps_set (i := 4) sc_law_font.nd rfl (.inl rfl) (pe_lst pa_nil))
      (pss_cons (ps_for PassesOwn.never rfl (piL (K := K) rfl (pv 3)) (pgT (n := 3) (K := K) rfl (by rfl) (pgs_cons (pg_name (i := 5) sc_law_font.nd rfl (.inl rfl)) (pgs_cons (pg_name (i := 6) sc_law_font.nd rfl (.inl rfl)) (pgs_cons (pg_name (i := 7) sc_law_font.nd rfl (.inl rfl)) pgs_nil))))
        (pss_cons (ps_setLc (i := 8) (own := [("one", 11)]) rfl sc_law_font.nd rfl rfl (sw_true rfl rfl rfl (by decide +kernel)) (piL (K := K) rfl (pv 6)) (blkOk_by (by kernel_rfl)) (fun _ _ _ _ _ => (pg_name (i := 11) sc_law_font.nd rfl (.inl rfl))) (fun _ _ _ _ _ => pts_nil) (fun _ _ _ _ _ => (pe_mk (mg := mg) rfl mk_Rule_1_back_ahead_out_calls (hr.mono (by decide)) (pa_cons (pe_ix (ixT (K := K) rfl) (pv 11) pe_int (fun _ _ => rfl)) pa_nil) (pk_cons (pe_ix (ixT (K := K) rfl) (pv 11) pe_int (fun _ _ => rfl)) (pk_cons (pe_ix (ixT (K := K) rfl) (pv 11) pe_int (fun _ _ => rfl)) (pk_cons (pe_ix (ixT (K := K) rfl) (pv 11) pe_int (fun _ _ => rfl)) (pk_cons (pe_ix (ixT (K := K) rfl) (pv 11) pe_int (fun _ _ => rfl)) pk_nil)))))))
      (pss_one (ps_expr (pe_bm PySem.F.plainAttrs_list PySem.F.slot_list_append PySem.F.type_list_append mt_append (pv 4) (pa_cons (pe_mk (mg := mg) rfl mk_Lookup_2_ignore (hr.mono (by decide)) (pa_cons (pv 5) (pa_cons (pv 8) pa_nil)) (pk_cons (pv 7) pk_nil)) pa_nil))))))
      (pss_cons (ps_setLc (i := 9) (own := [("k", 10)]) rfl sc_law_font.nd rfl rfl (sw_true rfl rfl rfl (by decide +kernel)) (pi_range1 (by rfl) T.z_range (pa_cons (pv 0) pa_nil)) (blkOk_by (by kernel_rfl)) (fun _ _ _ _ _ => (pg_name (i := 10) sc_law_font.nd rfl (.inl rfl))) (fun _ _ _ _ _ => pts_nil) (fun _ _ _ _ _ => (pe_mk (mg := mg) rfl mk_Glyph_2_mark (hr.mono (by decide)) (pa_cons (pe_ix (ixL (K := K) rfl) (pv 2) (pv 10) (fun _ _ => rfl)) (pa_cons (pe_lst pa_nil) pa_nil)) (pk_cons (pe_ix (ixL (K := K) rfl) (pv 1) (pv 10) (fun _ _ => rfl)) pk_nil))))
      (pss_one (ps_ret (pe_mk (mg := mg) rfl mk_Font_2_lookups (hr.mono (by decide)) (pa_cons pe_int (pa_cons (pv 9) pa_nil)) (pk_cons (pv 4) pk_nil))))))), ?_⟩
    walk_at "fl.w"
    rename_i p hp
    have np : p ∉ S := hS.ni hp
    have smp : Same H (upd H p (.lst [])) := Fl.Same.new hp
    have alp0 : Al (p :: S) (upd H p (.lst [])) := .cons (by rw [upd_same]; simp) (hS.same smp)
    have ne4 : l4 ≠ p := fun e => by rw [e, hp] at hz4; cases hz4
    have keep : ∀ {H' : Hp} {a : Addr} {o : HO}, Fr [p] (upd H p (.lst [])) H' → H a = some o → H' a = some o := fun f e => f _ _ (by simp; intro z; rw [z, hp] at e; cases e) (smp _ _ e)
    refine forK_l (xs := zs) (fun i σ' H' => (∃ u5 u6 u7 u8 u9 u10 u11, σ' = [some (.int (fo.glyphs.length : Int)), some (.ref l2), some (.ref l3), some (.ref l4), some (.ref p), u5, u6, u7, u8, u9, u10, u11]) ∧ Fr [p] (upd H p (.lst [])) H' ∧ ∃ acc, H' p = some (.lst acc) ∧ DqA (p :: S) H' acc ((fo.lks.take i).map fun k => lkD (cs mg) k.R)) ⟨⟨_, _, _, _, _, _, _, rfl⟩, Fr.refl, [], upd_same, .nil⟩ ?_ ?_ ?_
    · intro i σ' H' _ ⟨_, hf, _⟩
      exact SqL.of (keep hf hz4)
    · intro i x σ' H' hxi ⟨⟨u5, u6, u7, u8, u9, u10, u11, e⟩, hf, acc, hacc, hA⟩
      subst e
      have alp : Al (p :: S) H' := alp0.fr hf (.cons (by rw [hacc]; simp) .nil)
      have hla := hA.len
      have hacl : acc.length < 2000 := by
        rw [hla, List.length_map, List.length_take]
        omega
      have hil := (List.getElem?_eq_some_iff.mp hxi).1
      have hZp : DqA (p :: S) H' zs (fo.lks.map lkT) := (((hZ.new hp).same smp)).fr (hf.mono fun b m => by rw [show b = p by simpa using m]; exact List.mem_cons_self)
      obtain ⟨k, hk1, hx⟩ := hZp.getM hxi
      have kok := fok.lo k (List.mem_of_getElem? hk1)
      have hkr := kok.r
      obtain ⟨t, ys, rfl, _, ht, hY⟩ := hx.tupE
      obtain ⟨y1, ys, rfl, hy1, hY⟩ := hY.consE
      obtain ⟨y2, ys, rfl, hy2, hY⟩ := hY.consE
      obtain ⟨y3, ys, rfl, hy3, hY⟩ := hY.consE
      cases hY.nilE
      cases hy1
      cases hy3.blE
      have hy2' := hy2
      obtain ⟨rl, rs, rfl, nrl, hrl, hR⟩ := hy2'.lstE
      refine g_gtup (SqT.of ht) rfl ?_
      walk_at "fl.w"
      refine lcL (S := p :: S) (fun j => (k.rules[j]?).map fun r => insD (adr mg "Rule") r.R.F) alp hy2 (by rw [List.length_map]; omega) ?_ ?_
      · intro D j x e H2 hD he sm al hxe R N hR hN
        obtain ⟨r, hr1, rfl⟩ := at_map he
        have rok := RuV.Rok (kok.ro r (List.mem_of_getElem? hr1)) (by omega)
        obtain ⟨tr, zr, rfl, _, htr, hZr⟩ := hxe.tupE
        obtain ⟨d1, zr, rfl, hd1, hZr⟩ := hZr.consE
        obtain ⟨d2, zr, rfl, hd2, hZr⟩ := hZr.consE
        obtain ⟨d3, zr, rfl, hd3, hZr⟩ := hZr.consE
        obtain ⟨d4, zr, rfl, hd4, hZr⟩ := hZr.consE
        obtain ⟨d5, zr, rfl, hd5, hZr⟩ := hZr.consE
        cases hZr.nilE
        refine g_name ⟨rfl, ?_⟩
        walk_at "fl.w"
        refine g_mk rfl rfl (mk_app (f := fRu) (ws := [d1, d2, d3, d4, d5, .int 0]) (D :: p :: S) [llD r.R.inside, llD r.R.back, llD r.R.ahead, .list r.R.out, ltD r.R.calls, .int 0] r.R.F (fun x => rfl) al (.cons (.inl hd1) (.cons (.inl hd2) (.cons (.inl hd3) (.cons (.inl hd4) (.cons (.inl hd5) (.cons (.inl (.int 0)) .nil))))))
          ⟨_, _, _, _, _, r.R, rfl, rok, .ll rok.i, .ll rok.b, .ll rok.a, .ls rok.o, .lt rok.c, rfl⟩ fun x H3 sm3 hv => hR _ _ _ (by rw [hr1]; rfl) sm3 hv)
      · intro D H2 sm hD hq
        rw [fm_ltA (by rw [List.length_map])] at hq
        have hacc2 := sm _ _ hacc
        walk_at "fl.w"
        refine g_mk rfl rfl (mk_app (f := fLk (adr mg "Rule")) (ws := [.str k.kind, .ref D, .bl k.ign]) (p :: S) [.str k.kind, .list (k.R.rules.map fun r => insD (adr mg "Rule") r.F), .bool k.ign] (k.R.F (adr mg "Rule")) (fun x => rfl) (alp.same sm) (.cons (.inl (.str _)) (.cons (.inl (by
            show Dq (p :: S) H2 (.ref D) (.list ((k.rules.map RuV.R).map fun r => insD (adr mg "Rule") r.F))
            rw [List.map_map]
            exact hq)) (.cons (.inl (.bl _)) .nil)))
          ⟨k.R, _, rfl, LkV.Rok kok (by omega), rfl, rfl⟩ fun x H3 sm3 hv => ?_)
        have hacc3 := sm3 _ _ hacc2
        walk_at "fl.w"
        have hu : Fr (p :: S) H3 (upd H3 p (.lst (acc ++ [.ref x]))) := Fr.upd (by simp)
        refine ⟨⟨_, _, _, _, _, _, _, rfl⟩, (hf.trans (Fr.same sm)).trans ((Fr.same sm3).trans (Fr.upd (by simp))), _, upd_same, ?_⟩
        rw [List.take_succ, hk1, List.map_append]
        exact ((((hA.same sm).same sm3).app (.one hv))).fr hu
    · intro σ' H' ⟨⟨u5, u6, u7, u8, u9, u10, u11, e⟩, hf, acc, hacc, hA⟩
      subst e
      have alp : Al (p :: S) H' := alp0.fr hf (.cons (by rw [hacc]; simp) .nil)
      rw [List.take_of_length_le (by omega)] at hA
      have smH : Same H H' := fun a o e => keep hf e
      have hz2' := smH _ _ hz2
      have hz3' := smH _ _ hz3
      walk_at "fl.w"
      refine lcR (S := p :: S) (fun j => (fo.glyphs[j]?).map fun g => glD (cs mg) g.R) alp (by omega) ?_ ?_
      · intro D j H2 hD hj sm al R N hR hN
        obtain ⟨g, hg⟩ : ∃ g, fo.glyphs[j]? = some g := ⟨_, List.getElem?_eq_getElem (by omega)⟩
        obtain ⟨xa, hxa, hxaD⟩ := hAd.getD (i := j) (d := .int g.adv) (by simp [hg])
        cases hxaD.intE
        obtain ⟨xm, hxm, hxmD⟩ := hM.getD (i := j) (d := .bool g.mark) (by simp [hg])
        cases hxmD.blE
        have hata : atI as (j : Int) = some (.int g.adv) := atI_nat (j := j) hxa
        have hatm : atI ms (j : Int) = some (.bl g.mark) := atI_nat (j := j) hxm
        have hz2'' := sm _ _ hz2'
        have hz3'' := sm _ _ hz3'
        rw [Int.zero_add]
        refine g_name ⟨rfl, ?_⟩
        walk_at "fl.w"
        rename_i q0 hq0
        refine g_mk rfl rfl (mk_app (f := fGl) (ws := [.int g.adv, .ref q0, .ref g1, .ref g2, .bl g.mark, .ref g3, .ref g4]) (D :: p :: S) [.int g.adv, .list [], .tuple [], .tuple [], .bool g.mark, .tuple [], .tuple []] g.R.F (fun x => rfl) (al.same (Fl.Same.new hq0)) (.cons (.inl (.int _)) (.cons (.inl (Dq.newL al hq0 .nil)) (.cons (.inr ⟨rfl, _, rfl, o1⟩) (.cons (.inr ⟨rfl, _, rfl, o2⟩) (.cons (.inl (.bl _)) (.cons (.inr ⟨rfl, _, rfl, o3⟩) (.cons (.inr ⟨rfl, _, rfl, o4⟩) .nil)))))))
          ⟨_, _, _, _, _, g.R, rfl, GlV.Rok, .le, .e, .e, .e, .e, rfl⟩ fun x H3 sm3 hv => hR _ _ _ (by rw [hg]; rfl) (L2.Same.trans (Fl.Same.new hq0) sm3) hv)
      · intro D H2 sm hD hq
        rw [fm_ltA (by simp)] at hq
        have hmade : Dq S H2 (.ref p) (.list (fo.R.lookups.map (lkD (cs mg)))) := by
          show Dq S H2 (.ref p) (.list ((fo.lks.map LkV.R).map (lkD (cs mg))))
          rw [List.map_map]
          exact (Dq.lst np hacc hA.tail).same sm
        have hgl : Dq S H2 (.ref D) (.list (fo.R.glyphs.map (glD (cs mg)))) := by
          show Dq S H2 (.ref D) (.list ((fo.glyphs.map GlV.R).map (glD (cs mg))))
          rw [List.map_map]
          exact hq.tail
        walk_at "fl.w"
        refine g_mk rfl rfl (mk_app (f := fFo (cs mg) (fun fo => ∃ f : FoV, f.Ok ∧ fo = f.R)) (ws := [.int 100, .ref D, .ref f1, .ref p, .ref f3, .ref f4, .ref f5, .ref f6, .ref f7]) S [.int 100, .list (fo.R.glyphs.map (glD (cs mg))), .tuple [], .list (fo.R.lookups.map (lkD (cs mg))), .tuple [], .tuple [], .tuple [], .tuple [], .tuple []] (fo.R.F (cs mg)) (fun x => rfl) ((hS.same smH).same sm) (.cons (.inl (.int _)) (.cons (.inl hgl) (.cons (.inr ⟨rfl, _, rfl, n1⟩) (.cons (.inl hmade) (.cons (.inr ⟨rfl, _, rfl, n3⟩) (.cons (.inr ⟨rfl, _, rfl, n4⟩) (.cons (.inr ⟨rfl, _, rfl, n5⟩) (.cons (.inr ⟨rfl, _, rfl, n6⟩) (.cons (.inr ⟨rfl, _, rfl, n7⟩) .nil)))))))))
          ⟨_, _, _, _, _, _, _, _, fo.R, rfl, FoV.Rok fok, ⟨fo, fok, rfl⟩, rfl, .e, rfl, .e, .e, .e, .e, .e, rfl⟩ fun x H3 sm3 hv => q _ _ ((smH.trans sm).trans sm3) hv)
end

section
variable {P : Program} {w : World} {K : PySem.W.Frag} {mg : Str → Option Value} {base : Heap}
local macro_rules | `(tactic| walk_at "fl.t") => `(tactic| (with_reducible refine g_callL2 ?_))
local macro_rules | `(tactic| walk_at "fl.w") => `(tactic| repeat walk_at "fl.t")
local macro_rules | `(tactic| walk_at "fl.q") => `(tactic| repeat ((fail_if_success (with_reducible refine g_ifE ?_)); (fail_if_success (with_reducible refine g_if ?_)); walk_at "fl.t"))
theorem g_ifJ {c : TT} {ta tb : TS} {D : Ends} {σ : L2.St} {H : Hp} (J : Bool → Hp → Prop) (hc : ∀ R : Bool → Hp → Prop, (∀ b H1, J b H1 → R b H1) → c σ H R) (h : ∀ b H1, J b H1 → if b = true then ta D σ H1 else tb D σ H1) : tIfS c ta tb D σ H := hc _ h
def spLaw (K : PySem.W.Frag) (mg : Str → Option Value) : Sp := fun vs H Q _ => ∃ (a : Addr) (ns : List Int), vs = [.ref a] ∧ SqL K H a (ns.map V.int) ∧ ns.length ≤ 63 ∧ H (tabA K (codA K (adr mg "apply_rules"))) = some (.tbl #[]) ∧ ∀ H', Q (.bl true) H'
theorem tab_fr {H H' : Hp} {P d : Addr} {q : Str} {xs : List V} (h : LamX.TabS H P q) (f : Fr [d] H H') (e : H d = some (.lst xs)) : LamX.TabS H' P q := by
  obtain ⟨ps, h1, h2, h3⟩ := h
  have nd : ∀ (b : Addr) (o : HO), H b = some o → (∀ ys, o ≠ .lst ys) → H' b = some o := fun b o z n => f b o (fun m => n xs (by
    rw [show b = d by simpa using m, e] at z
    exact (Option.some.inj z).symm)) z
  exact ⟨ps, nd _ _ h1 (fun _ z => by cases z), h2, fun p cv hc => by
    obtain ⟨c, e1, e2⟩ := h3 p cv hc
    exact ⟨c, e1, nd _ _ e2 (fun _ z => by unfold LamX.CodeO at z; cases z)⟩⟩
theorem Dw.lst {d : Addr} {H : Hp} (h : Dw d H) : ∃ xs, H d = some (.lst xs) := by
  obtain ⟨zs, e, _⟩ := h
  exact ⟨_, e⟩
theorem tab_al {H : Hp} {P : Addr} {q : Str} (h : LamX.TabS H P q) : Al [P] H := .cons (by obtain ⟨ps, e, _⟩ := h; rw [e]; simp) .nil
theorem sh_run (run : List ItV) : SeqAt.shaped (ruD run) = true := sh_list (n := 1) (fun d m => by
  obtain ⟨x, _, rfl⟩ := List.mem_map.mp m
  exact ⟨rfl, Nat.le_refl _⟩) (by decide)
theorem ok_law (T : Txt K mg) (I : InsK K w mg) (TB : LamX.TabB base mg (cA K mg) (tP K mg)) {f : Addr} {fd : FuncData} (F : Fun K "law" "law" s_law f fd) : FnOk P w K mg base CX0 18 f fd ps_law (spLaw K mg) := by
  have h_law_numbers := ok_law_numbers (P := P) (w := w) (base := base) T
  have h_law_world := ok_law_world (P := P) (w := w) (base := base) T
  have h_law_font := ok_law_font (P := P) (w := w) (base := base) T I
  have h_law_run := ok_law_run (P := P) (w := w) (base := base) T
  have h_law_twice := ok_law_twice (P := P) (w := w) (base := base) T
  have h_law_puts := ok_law_puts (P := P) (w := w) (base := base) T
  obtain ⟨em, hE, dm⟩ := T.d_match
  have len : ∀ vs H Q E, spMt K (cs mg) vs H Q E → vs.length = ps_match.length := fun vs H Q E h => by
    obtain ⟨S, fo, l, a, k, run, v1, v3, p, fs, rfl, _⟩ := h
    rfl
  have h_match_4 := hasD_of (P := P) (w := w) (base := base) dm sc_match 4 0 (by simp) rfl bd_match_4 len (body_match T)
  obtain ⟨ea, hA, da⟩ := T.d_apply_rules
  have h_apply_rules_3 := hasDT_of (P := P) (w := w) (base := base) da sc_apply_rules 3 0 (by simp) rfl bd_apply_rules_3 (fun vs H Q E h => by
    obtain ⟨S, f, l, k, run, fs, v1, v3, p, rfl, _⟩ := h
    rfl) (body_apply_rules T TB)
  refine fnok_of F sc_law (fun vs H Q E h => ?_) (fun f cdv A outer s H vs Q E hr h => ?_)
  · obtain ⟨a, ns, rfl, _⟩ := h
    rfl
  · obtain ⟨a, ns, rfl, hS, hlen, htb, q⟩ := h
    have tb0 : LamX.TabS H (tP K mg) tq := LamX.TabS.nil htb
    refine ⟨_, (pss_cons (ps_set (i := 1) sc_law.nd rfl (.inl rfl) (pe_h h_law_numbers (hr.mono (by decide)) (pa_cons (pv 0) (pa_cons pe_int pa_nil))))
      (pss_cons (ps_set (i := 2) sc_law.nd rfl (.inl rfl) (pe_h h_law_world (hr.mono (by decide)) (pa_cons (pv 1) pa_nil)))
      (pss_cons (ps_asg (pv 2) (pgT (n := 4) (K := K) rfl (by rfl) (pgs_cons (pg_name (i := 3) sc_law.nd rfl (.inl rfl)) (pgs_cons (pg_name (i := 4) sc_law.nd rfl (.inl rfl)) (pgs_cons (pg_name (i := 5) sc_law.nd rfl (.inl rfl)) (pgs_cons (pg_name (i := 6) sc_law.nd rfl (.inl rfl)) pgs_nil))))))
      (pss_cons (ps_set (i := 7) sc_law.nd rfl (.inr rfl) (pe_h h_law_font (hr.mono (by decide)) (pa_cons (pv 3) (pa_cons (pv 4) (pa_cons (pv 5) (pa_cons (pv 6) pa_nil))))))
      (pss_cons (ps_set (i := 8) sc_law.nd rfl (.inr rfl) (pe_h h_law_run (hr.mono (by decide)) (pa_cons (pv 1) (pa_cons (pv 3) (pa_cons (pv 5) pa_nil)))))
      (pss_cons (ps_setLc (i := 10) (own := [("kind", 9), ("rules", 16), ("ignore", 17)]) rfl sc_law.nd rfl rfl (sw_true rfl rfl rfl (by decide +kernel)) (piL (K := K) rfl (pv 6)) (blkOk_by (by kernel_rfl)) (fun _ _ _ _ _ => (pgT (n := 3) (K := K) rfl (by rfl) (pgs_cons (pg_name (i := 9) sc_law.nd rfl (.inl rfl)) (pgs_cons (pg_name (i := 16) sc_law.nd rfl (.inl rfl)) (pgs_cons (pg_name (i := 17) sc_law.nd rfl (.inl rfl)) pgs_nil))))) (fun _ _ _ _ _ => pts_nil) (fun _ _ _ _ _ => (pe_tup (pa_cons (pv 9) (pa_cons (pe_h h_law_twice (hr.mono (by decide)) (pa_cons (pv 16) pa_nil)) (pa_cons (pv 17) pa_nil))))))
      (pss_cons (ps_set (i := 11) sc_law.nd rfl (.inl rfl) (pe_h h_law_font (hr.mono (by decide)) (pa_cons (pv 3) (pa_cons (pv 4) (pa_cons (pv 5) (pa_cons (pv 10) pa_nil))))))
      (pss_cons (ps_for PassesOwn.never rfl (pi_range1 (by rfl) T.z_range (pa_cons (pe_callB (clLen (K := K) rfl) (by rfl) T.z_len (by decide +kernel) (pa_cons (pv 6) pa_nil)) pa_nil)) (pg_name (i := 12) sc_law.nd rfl (.inr rfl))
        (pss_cons (ps_set (i := 13) sc_law.nd rfl (.inl rfl) (pe_hD h_apply_rules_3 (hr.mono (by decide)) (pa_cons (pv 7) (pa_cons (pv 12) (pa_cons (pe_callTy (clList (K := K) rfl) (by rfl) T.z_list (by decide +kernel) (pa_cons (pv 8) pa_nil)) pa_nil)))))
      (pss_cons (ps_set (i := 9) sc_law.nd rfl (.inl rfl) (pe_ix (ixT (K := K) rfl) (pe_ix (ixL (K := K) rfl) (pv 6) (pv 12) (fun _ _ => rfl)) pe_int (fun _ _ => rfl)))
      (pss_cons (ps_if (pt_cmpR (opNeD (K := K) rfl hr.units) (pe_hD h_apply_rules_3 (hr.mono (by decide)) (pa_cons (pv 11) (pa_cons (pv 12) (pa_cons (pe_callTy (clList (K := K) rfl) (by rfl) T.z_list (by decide +kernel) (pa_cons (pv 8) pa_nil)) pa_nil)))) (pv 13) (nomark _))
        (pss_one (ps_ret pe_bl))
        pss_nil)
      (pss_cons (ps_if (PW.pt (pw_or (PW.pt (pw_and (pt_cmpR (opIn (K := K) rfl) (pv 9) (pe_lst (pa_cons pe_str (pa_cons pe_str pa_nil))) (by rfl)) (pw_and1 (pt_cmpR op_ne (pe_callB (clLen (K := K) rfl) (by rfl) T.z_len (by decide +kernel) (pa_cons (pv 13) pa_nil)) (pe_callB (clLen (K := K) rfl) (by rfl) T.z_len (by decide +kernel) (pa_cons (pv 8) pa_nil)) (nomark _))))) (pw_or1 (PW.pt (pw_and (pt_cmpR op_eq (pv 9) pe_str (nomark _)) (pw_and1 (pt_cmpR op_gt (pe_callB (clLen (K := K) rfl) (by rfl) T.z_len (by decide +kernel) (pa_cons (pv 13) pa_nil)) (pe_callB (clLen (K := K) rfl) (by rfl) T.z_len (by decide +kernel) (pa_cons (pv 8) pa_nil)) (nomark _))))))))
        (pss_one (ps_ret pe_bl))
        pss_nil)
      (pss_cons (ps_for PassesOwn.never rfl (piL (K := K) rfl (pv 13)) (pg_name (i := 14) sc_law.nd rfl (.inl rfl))
        (pss_one (ps_if (pt_cmpR (opNotIn (K := K) rfl) (pe_ix (ixT (K := K) rfl) (pv 14) pe_int (fun _ _ => rfl)) (pe_op op_cat (pe_lc (own := [("old", 19)]) rfl sc_law.nd (piL (K := K) rfl (pv 8)) (blkOk_by (by kernel_rfl)) (fun _ _ _ _ _ => (pg_name (i := 19) sc_law.nd rfl (.inl rfl))) (fun _ _ _ _ _ => pts_nil) (fun _ _ _ _ _ => (pe_ix (ixT (K := K) rfl) (pv 19) pe_int (fun _ _ => rfl)))) (pe_h h_law_puts (hr.mono (by decide)) (pa_cons (pv 2) (pa_cons (pv 12) pa_nil)))) (by rfl))
        (pss_one (ps_ret pe_bl))
        pss_nil)))
      (pss_cons (ps_if (PW.pt (pw_and (pt_val (pe_callB (clAll (K := K) rfl rfl) (by rfl) T.z_all (by decide +kernel) (pa_cons (pe_lc (own := [("at", 18)]) rfl sc_law.nd (pi_range1 (by rfl) T.z_range (pa_cons (pe_callB (clLen (K := K) rfl) (by rfl) T.z_len (by decide +kernel) (pa_cons (pv 8) pa_nil)) pa_nil)) (blkOk_by (by kernel_rfl)) (fun _ _ _ _ _ => (pg_name (i := 18) sc_law.nd rfl (.inl rfl))) (fun _ _ _ _ _ => pts_nil) (fun _ _ _ _ _ => (pe_cmpR op_isN (pe_hD h_match_4 (hr.mono (by decide)) (pa_cons (pv 7) (pa_cons (pv 12) (pa_cons (pv 8) (pa_cons (pv 18) pa_nil))))) pe_non (nomark _)))) pa_nil))) (pw_and1 (pt_cmpR (opNeD (K := K) rfl hr.units) (pv 13) (pv 8) (nomark _)))))
        (pss_one (ps_ret pe_bl))
        pss_nil)
      (pss_cons (ps_set (i := 15) sc_law.nd rfl (.inl rfl) (pe_op op_cat (pe_op op_cat (pe_slice (slL' (K := K) rfl) (pv 6) po_none (po_some (pv 12))) (pe_lst (pa_cons (pe_tup (pa_cons (pv 9) (pa_cons (pe_lst pa_nil) (pa_cons (pe_ix (ixT (K := K) rfl) (pe_ix (ixL (K := K) rfl) (pv 6) (pv 12) (fun _ _ => rfl)) pe_int (fun _ _ => rfl)) pa_nil)))) pa_nil))) (pe_slice (slL' (K := K) rfl) (pv 6) (po_some (pe_op op_add (pv 12) pe_int)) po_none)))
      (pss_one (ps_if (pt_cmpR (opNeD (K := K) rfl hr.units) (pe_hD h_apply_rules_3 (hr.mono (by decide)) (pa_cons (pe_h h_law_font (hr.mono (by decide)) (pa_cons (pv 3) (pa_cons (pv 4) (pa_cons (pv 5) (pa_cons (pv 15) pa_nil))))) (pa_cons (pv 12) (pa_cons (pe_callTy (clList (K := K) rfl) (by rfl) T.z_list (by decide +kernel) (pa_cons (pv 8) pa_nil)) pa_nil)))) (pv 8) (nomark _))
        (pss_one (ps_ret pe_bl))
        pss_nil))))))))))
      (pss_one (ps_ret pe_bl)))))))))), ?_⟩
    simp only [L2.start, N_law, List.set_cons_succ, List.set_cons_zero, List.map_cons, List.map_nil, List.length_cons, List.length_nil, List.cons_append, List.nil_append, Nat.reduceAdd, Nat.reduceSub, List.replicate_succ, List.replicate_zero]
    walk_at "fl.w"
    refine ⟨a, ns, 140, rfl, hS, hlen, by omega, fun d H1 sm1 hd1 k1 => ?_⟩
    have tb1 := tab_same tb0 sm1
    walk_at "fl.w"
    try simp only [L2.start, N_law, List.set_cons_succ, List.set_cons_zero, List.map_cons, List.map_nil, List.length_cons, List.length_nil, List.cons_append, List.nil_append, Nat.reduceAdd, Nat.reduceSub, List.replicate_succ, List.replicate_zero]
    refine ⟨[d, tP K mg], d, rfl, .cons k1.hd (tab_al tb1), by simp, k1, fun tw H2 fo f2 k2 dw fok gl5 r3 l4 => ?_⟩
    have tb2 : LamX.TabS H2 (tP K mg) tq := by
      obtain ⟨xs, e⟩ := Dw.lst k1
      exact tab_fr tb1 f2 e
    have dw' := dw
    obtain ⟨wa, ws, ee, ntw, hwa, hW⟩ := dw'.tupE
    cases ee
    have hW0 := hW
    obtain ⟨x1, ws, rfl, hx1, hW⟩ := hW.consE
    obtain ⟨x2, ws, rfl, hx2, hW⟩ := hW.consE
    obtain ⟨x3, ws, rfl, hx3, hW⟩ := hW.consE
    obtain ⟨x4, ws, rfl, hx4, hW⟩ := hW.consE
    cases hW.nilE
    cases hx1.intE
    obtain ⟨a2, ms, rfl, na2, ha2, hM⟩ := id hx2.lstE
    obtain ⟨a3, as3, rfl, na3, ha3, _⟩ := id hx3.lstE
    obtain ⟨a4, ls, rfl, na4, ha4, hL⟩ := id hx4.lstE
    have out3 : ∀ k, k ∈ fo.lks → Out3 k := fun k m => (r3 k m).2
    have rl3 : ∀ k, k ∈ fo.lks → k.rules.length ≤ 3 := fun k m => (r3 k m).1
    have lL := hL.len
    rw [List.length_map] at lL
    walk_at "fl.w"
    try simp only [L2.start, N_law, List.set_cons_succ, List.set_cons_zero, List.map_cons, List.map_nil, List.length_cons, List.length_nil, List.cons_append, List.nil_append, Nat.reduceAdd, Nat.reduceSub, List.replicate_succ, List.replicate_zero]
    refine spD_app [d, tP K mg] _ (foD (cs mg) fo.R) (.cons k2.hd (tab_al tb2)) hW0 ⟨fo, fok, rfl, rfl⟩ (fun vf H3 sm3 dF => ?_)
    have k3 := k2.sm sm3
    have tb3 := tab_same tb2 sm3
    walk_at "fl.w"
    try simp only [L2.start, N_law, List.set_cons_succ, List.set_cons_zero, List.map_cons, List.map_nil, List.length_cons, List.length_nil, List.cons_append, List.nil_append, Nat.reduceAdd, Nat.reduceSub, List.replicate_succ, List.replicate_zero]
    refine ⟨[d, tP K mg], d, _, fo, rfl, .cons k3.hd (tab_al tb3), by simp, k3, hx3.same sm3, fok.g.1, fun tr H4 run f4 k4 dr rok lrun => ?_⟩
    have tb4 : LamX.TabS H4 (tP K mg) tq := by
      obtain ⟨xs, e⟩ := Dw.lst k3
      exact tab_fr tb3 f4 e
    have one : ∀ b, b ∈ [tP K mg] → b ∈ [d, tP K mg] := fun _ m => List.mem_cons_of_mem _ m
    have oned : ∀ b, b ∈ [d] → b ∈ [d, tP K mg] := fun b m => by rw [show b = d by simpa using m]; exact List.mem_cons_self
    have dw4 : Dq [tP K mg] H4 (.ref tw) (woD fo) := ((dw.same sm3).fr (f4.mono oned)).mono one
    have dF4 : Dq [tP K mg] H4 vf (foD (cs mg) fo.R) := (dF.fr (f4.mono oned)).mono one
    have hx24 := ((hx2.same sm3).fr (f4.mono oned)).mono one
    have hx34 := ((hx3.same sm3).fr (f4.mono oned)).mono one
    have hx44 := ((hx4.same sm3).fr (f4.mono oned)).mono one
    have dr4 : Dq [tP K mg] H4 (.ref tr) (ruD run) := dr.mono one
    clear dw dF hx2 hx3 hx4 hW0 dr hS hM hL
    have al4 := tab_al tb4
    obtain ⟨_, ls4, ee, na44, ha44, hL4⟩ := id hx44.lstE
    cases ee
    obtain ⟨_, rs, ee, nra, hra, hR⟩ := id dr4.lstE
    cases ee
    have lL4 := hL4.len
    rw [List.length_map] at lL4
    have lR := hR.len
    rw [List.length_map] at lR
    walk_at "fl.w"
    try simp only [L2.start, N_law, List.set_cons_succ, List.set_cons_zero, List.map_cons, List.map_nil, List.length_cons, List.length_nil, List.cons_append, List.nil_append, Nat.reduceAdd, Nat.reduceSub, List.replicate_succ, List.replicate_zero]
    refine lcL (S := [tP K mg]) (es := fo.lks.map lkT) (fun i => (fo.lks[i]?).map fun k => lkT (twK k)) al4 hx44 (by rw [List.length_map]; have := fok.l; omega) ?_ ?_
    · intro D i x e0 H5 hD he sm al hx R N hR2 hN
      rw [List.getElem?_map] at he
      cases hi : fo.lks[i]? with
      | none => rw [hi] at he; cases he
      | some k =>
        rw [hi] at he
        cases he
        have hx' := hx
        unfold lkT at hx'
        obtain ⟨ka, kz, rfl, _, hka, hKD⟩ := hx'.tupE
        obtain ⟨y1, kz, rfl, hy1, hKD⟩ := hKD.consE
        obtain ⟨y2, kz, rfl, hy2, hKD⟩ := hKD.consE
        obtain ⟨y3, kz, rfl, hy3, hKD⟩ := hKD.consE
        cases hKD.nilE
        have hr12 := rl3 k (List.mem_of_getElem? hi)
        walk_at "fl.w"
        refine ⟨rfl, ?_⟩
        walk_at "fl.w"
        refine spD_app (D :: [tP K mg]) [.list (k.rules.map ruT)] _ al (.cons hy2 .nil) ⟨k.rules, rfl, by omega, rfl⟩ (fun v H6 sm6 hv => ?_)
        walk_at "fl.w"
        rename_i p hp
        exact hR2 _ _ _ (by rw [hi]; rfl) (sm6.trans (Fl.Same.new hp)) (.newT (al.same sm6) hp (.cons (hy1.same sm6) (.cons hv (.cons (hy3.same sm6) .nil))))
    intro D1 H5 sm5 hD1 hq
    rw [fm_ltA (by rw [List.length_map])] at hq
    have tb5 := tab_same tb4 sm5
    have al5 := al4.same sm5
    walk_at "fl.w"
    try simp only [L2.start, N_law, List.set_cons_succ, List.set_cons_zero, List.map_cons, List.map_nil, List.length_cons, List.length_nil, List.cons_append, List.nil_append, Nat.reduceAdd, Nat.reduceSub, List.replicate_succ, List.replicate_zero]
    refine spD_app [tP K mg] [.int fo.glyphs.length, .list ((fo.glyphs.map GlV.mark).map .bool), .list ((fo.glyphs.map GlV.adv).map .int), .list ((twF fo).lks.map lkT)] (foD (cs mg) (twF fo).R) al5 (.cons (.int _) (.cons (hx24.same sm5) (.cons (hx34.same sm5) (.cons (by
      show Dq _ _ _ (.list ((fo.lks.map twK).map lkT))
      rw [List.map_map]
      exact hq) .nil)))) ⟨twF fo, tw_ok fok rl3, rfl, rfl⟩ (fun vt H6 sm6 dT => ?_)
    have tb6 := tab_same tb5 sm6
    have al6 := al5.same sm6
    have s46 := sm5.trans sm6
    have ha46 := s46 _ _ ha44
    walk_at "fl.w"
    have dF6 := dF4.same s46
    have dr6 := dr4.same s46
    have dw6 := dw4.same s46
    have hx26 := hx24.same s46
    have hx36 := hx34.same s46
    have hL6 := hL4.same s46
    have hR6 := hR.same s46
    have hra6 := s46 _ _ hra
    clear dF4 dr4 dw4 hx24 hx34 hx44 hL4 hR hra ha44 tb4 tb5 al4 al5 hq
    rw [show ((ls4.length : Nat) : Int).toNat = fo.lks.length by omega]
    refine forK_r (fun l σ' H' => (∃ u9 u12 u13 u14 u15 u16 u17 u18 u19, σ' = [some (.ref a), some (.ref d), some (.ref tw), some (.int (fo.glyphs.length : Int)), some (.ref a2), some (.ref a3), some (.ref a4), some vf, some (.ref tr), u9, some (.ref D1), some vt, u12, u13, u14, u15, u16, u17, u18, u19]) ∧ Fr [tP K mg] H6 H' ∧ LamX.TabS H' (tP K mg) tq) ⟨⟨_, _, _, _, _, _, _, _, _, rfl⟩, Fr.refl, tb6⟩ ?_ ?_
    · intro l σ' G hl ⟨⟨u9, u12, u13, u14, u15, u16, u17, u18, u19, e⟩, f6, tbG⟩
      subst e
      rw [Int.zero_add]
      obtain ⟨k, hk⟩ : ∃ k, fo.lks[l]? = some k := ⟨_, List.getElem?_eq_getElem hl⟩
      have hkm := List.mem_of_getElem? hk
      have hkd := (fok.lo k hkm).k
      have alG := tab_al tbG
      have hraG := f6 _ _ nra hra6
      obtain ⟨kv, hkv, hkD⟩ := hL6.getD (i := l) (d := lkT k) (by rw [List.getElem?_map, hk]; rfl)
      unfold lkT at hkD
      obtain ⟨ka, kz, rfl, nka, hka, hKD⟩ := hkD.tupE
      obtain ⟨y1, kz, rfl, hy1, hKD⟩ := hKD.consE
      obtain ⟨y2, kz, rfl, hy2, hKD⟩ := hKD.consE
      obtain ⟨y3, kz, rfl, hy3, hKD⟩ := hKD.consE
      cases hKD.nilE
      cases hy1
      cases hy3.blE
      have hatl : atI ls4 (l : Int) = some (.ref ka) := atI_nat (j := l) hkv
      walk_at "fl.w"
      rename_i tg htg
      have eg : upd G tg (.lst rs) tg = some (.lst rs) := upd_same
      have f6g : Fr [tP K mg] H6 (upd G tg (.lst rs)) := f6.trans (Fr.new htg)
      have tbg : LamX.TabS (upd G tg (.lst rs)) (tP K mg) tq := tab_same tbG (Fl.Same.new htg)
      have dg : Dq [tP K mg] (upd G tg (.lst rs)) (.ref tg) (ruD run) := .newL alG htg (hR6.fr f6)
      generalize upd G tg (.lst rs) = G0 at eg f6g tbg dg ⊢
      refine ⟨[tP K mg], fo, l, k, run, [], vf, .ref tg, ea, rfl, by simp, tab_al tbg, tbg, dF6.fr f6g, dg, fun H' _ => .inr (hA.sq H'), fok, out3, hk, rok, by omega, fun b1 G1 f1 tb1' _ dv1 => ?_⟩
      have ff1 := f6g.trans f1
      have ha41 := ff1 _ _ na44 ha46
      have hka1 := ff1 _ _ nka hka
      have hra1 := ff1 _ _ nra hra6
      have al1' := tab_al tb1'
      clear dg tbg eg f6g f1
      walk_at "fl.q"
      simp only [List.set_cons_succ, List.set_cons_zero]
      walk_at "fl.w"
      rename_i tg htg
      have eg : upd G1 tg (.lst rs) tg = some (.lst rs) := upd_same
      have f1g : Fr [tP K mg] G1 (upd G1 tg (.lst rs)) := Fr.new htg
      have tbg : LamX.TabS (upd G1 tg (.lst rs)) (tP K mg) tq := tab_same tb1' (Fl.Same.new htg)
      have dg : Dq [tP K mg] (upd G1 tg (.lst rs)) (.ref tg) (ruD run) := .newL al1' htg (hR6.fr ff1)
      generalize upd G1 tg (.lst rs) = G0' at eg f1g tbg dg ⊢
      refine ⟨[tP K mg], twF fo, l, twK k, run, [], vt, .ref tg, ea, rfl, by simp, tab_al tbg, tbg, dT.fr (ff1.trans f1g), dg, fun H' _ => .inr (hA.sq H'), tw_ok fok rl3, tw_out out3, by show (fo.lks.map twK)[l]? = _; rw [List.getElem?_map, hk]; rfl, rok, by omega, fun b2 G2 f2 tb2' _ dv2 => ?_⟩
      rw [ap_tw] at dv2
      have f12 : Fr [tP K mg] G1 G2 := f1g.trans f2
      have ff2 := ff1.trans f12
      have dv1' := dv1.fr f12
      have ha42 := ff2 _ _ na44 ha46
      have hka2 := ff2 _ _ nka hka
      have hra2 := ff2 _ _ nra hra6
      have al2' := tab_al tb2'
      clear dg tbg eg f1g f2 dv1 ha41 hka1 hra1
      walk_at "fl.w"
      refine g_neD' dv2 dv1' (sh_run _) (sh_run _) ?_
      rw [eqv_self (sh_run _)]
      obtain ⟨_, zs, ez, nb1, hzs, hZ⟩ := id dv1'.lstE
      cases ez
      have lZ : zs.length = (apV fo k [] run).length := by rw [hZ.len, List.length_map]
      walk_at "fl.q"
      refine g_ifJ (fun b G => b = false ∧ Same G2 G) (fun RR hRR => ?_) (fun b G3 hb => ?_)
      · simp only [kindsR, List.mem_cons, List.not_mem_nil, or_false] at hkd
        have l1 : (k.kind = "single" ∨ k.kind = "reverse") → (apV fo k [] run).length = run.length := fun h => by
          unfold apV
          rcases h with h | h
          · rw [if_neg (by rw [h]; decide +kernel)]
            exact won_keep fok hkm h _ _ _ (Nat.zero_le _)
          · rw [if_pos h, wbkV_len]
        have l2 : k.kind = "ligature" → (apV fo k [] run).length ≤ run.length := fun h => by
          unfold apV
          rw [if_neg (by rw [h]; decide +kernel)]
          exact won_less fok hkm h _ _ _ (Nat.zero_le _)
        have p0 : ∀ {p : Addr} {o : HO}, G2 p = none → Same G2 (upd G2 p o) := fun h => Fl.Same.new h
        rcases hkd with h | h | h | h | h
        all_goals
          rw [h] at l1 l2 ⊢
          walk_at "fl.w"
          first | refine g_inLs (b := true) (SqL.of upd_same) rfl rfl rfl ?_ | refine g_inLs (b := false) (SqL.of upd_same) rfl rfl rfl ?_
          walk_at "fl.w"
        · rename_i p hp
          have e9 : (zs.length : Int) = (rs.length : Int) := by
            have := l1 (by first | exact .inl rfl | exact .inr rfl)
            omega
          rw [if_neg (by simp [e9])]
          walk_at "fl.w"
          first | refine g_eqS (b := false) (by decide +kernel) ?_ | refine g_noB (by decide +kernel) ?_
          walk_at "fl.w"
          exact hRR _ _ ⟨rfl, p0 hp⟩
        · rename_i p hp
          first | refine g_eqS (b := false) (by decide +kernel) ?_ | refine g_noB (by decide +kernel) ?_
          walk_at "fl.w"
          exact hRR _ _ ⟨rfl, p0 hp⟩
        · rename_i p hp
          first | refine g_eqS (b := true) (by decide +kernel) ?_ | refine g_yesB (by decide +kernel) ?_
          walk_at "fl.w"
          have := l2 rfl
          rw [decide_eq_false (by omega)]
          exact hRR _ _ ⟨rfl, p0 hp⟩
        · rename_i p hp
          first | refine g_eqS (b := false) (by decide +kernel) ?_ | refine g_noB (by decide +kernel) ?_
          walk_at "fl.w"
          exact hRR _ _ ⟨rfl, p0 hp⟩
        · rename_i p hp
          have e9 : (zs.length : Int) = (rs.length : Int) := by
            have := l1 (by first | exact .inl rfl | exact .inr rfl)
            omega
          rw [if_neg (by simp [e9])]
          walk_at "fl.w"
          first | refine g_eqS (b := false) (by decide +kernel) ?_ | refine g_noB (by decide +kernel) ?_
          walk_at "fl.w"
          exact hRR _ _ ⟨rfl, p0 hp⟩
      obtain ⟨rfl, sm3⟩ := hb
      have ff3 : Fr [tP K mg] H6 G3 := fun a o n e => sm3 _ _ (ff2 a o n e)
      have tb3' := tab_same tb2' sm3
      have al3' := tab_al tb3'
      have hzs3 := sm3 _ _ hzs
      have hra3 := ff3 _ _ nra hra6
      have dv3 := dv1'.same sm3
      clear dv1' hzs hra2 ha42 hka2 al2' tb2' dv2
      walk_at "fl.w"
      refine forK_l (xs := zs) (fun i σ' H' => (∃ u14 u19, σ' = [some (.ref a), some (.ref d), some (.ref tw), some (.int (fo.glyphs.length : Int)), some (.ref a2), some (.ref a3), some (.ref a4), some vf, some (.ref tr), some (.str k.kind), some (.ref D1), some vt, some (.int (l : Int)), some (.ref b1), u14, u15, u16, u17, u18, u19]) ∧ Same G3 H') ⟨⟨_, _, rfl⟩, L2.Same.refl _⟩ ?_ ?_ ?_
      · intro i σ' H' _ ⟨_, sm⟩
        exact SqL.of (sm _ _ hzs3)
      · intro i x σ' H' hx ⟨⟨u14, u19, e⟩, sm⟩
        subst e
        have ffH : Fr [tP K mg] H6 H' := fun a o n e => sm _ _ (ff3 a o n e)
        have alH := al3'.same sm
        obtain ⟨it, hit, hxi⟩ := (hZ.same (sm3.trans sm)).getM hx
        obtain ⟨t, rfl, nt, ht⟩ := itE hxi
        have hraH := ffH _ _ nra hra6
        walk_at "fl.w"
        refine lcL (S := [tP K mg]) (es := run.map ItV.D) (fun i => ((run.map fun it => (it.g : Int))[i]?).map PyData.int) alH (dr6.fr ffH) (by rw [List.length_map]; omega) ?_ ?_
        · intro D j y e0 H7 hD he sm7 al7 hy R N hR2 hN
          rw [List.getElem?_map] at he
          cases hj : run[j]? with
          | none => rw [hj] at he; cases he
          | some it2 =>
            rw [hj] at he
            cases he
            obtain ⟨t2, rfl, nt2, ht2⟩ := itE hy
            refine g_name ⟨rfl, ?_⟩
            walk_at "fl.w"
            exact hR2 _ _ _ (by rw [List.getElem?_map, hj]; rfl) (L2.Same.refl _) (.int _)
        intro D H7 sm7 hD hq7
        rw [fm_ltA (by rw [List.length_map, List.length_map])] at hq7
        obtain ⟨_, ys, ey, nD, hys, hY⟩ := hq7.lstE
        cases ey
        obtain rfl := ints_of (L := run.map fun it => (it.g : Int)) hY
        have ff7 : Fr [tP K mg] H6 H7 := fun a o n e => sm7 _ _ (ffH a o n e)
        walk_at "fl.w"
        refine spD_app [tP K mg] [woD fo, .int l] (.list ((putsV fo k).map .int)) (alH.same sm7) (.cons (dw6.fr ff7) (.cons (.int _) .nil)) ⟨fo, l, k, rfl, fok, rl3, hk, rfl⟩ (fun v H8 sm8 hv => ?_)
        obtain ⟨pb, ps, rfl, nb, hpb, hP⟩ := hv.lstE
        obtain rfl := ints_of (L := putsV fo k) hP
        have hys8 := sm8 _ _ hys
        have lput : (putsV fo k).length ≤ 600 := by
          have := fm_len (l := k.rules) (f := putR fo) (B := 200) fun r m => putR_len fok rl3 ((fok.lo k hkm).ro r m)
          have h5 := Nat.mul_le_mul_right 200 (rl3 k hkm)
          unfold putsV
          omega
        walk_at "fl.w"
        rename_i p9 hp9
        have hin := ap_in (fs := []) (run := run) fok hkm it (List.mem_of_getElem? hit)
        have h9 : upd H8 p9 (.lst ((run.map fun it => (it.g : Int)).map V.int ++ (putsV fo k).map V.int)) p9 = some (.lst (((run.map fun it => (it.g : Int)) ++ putsV fo k).map V.int)) := by
          rw [List.map_append (f := V.int)]
          exact upd_same
        refine g_ninI (.inl (SqL.of h9)) ?_
        walk_at "fl.w"
        refine g_iteN (fun z => absurd hin z) (fun _ => ?_)
        walk_at "fl.w"
        exact ⟨⟨_, _, rfl⟩, sm.trans (sm7.trans (sm8.trans (Fl.Same.new hp9)))⟩
      · intro σ' H' ⟨⟨u14, u19, e⟩, sm⟩
        subst e
        have ffH : Fr [tP K mg] H6 H' := fun a o n e => sm _ _ (ff3 a o n e)
        have tbH := tab_same tb3' sm
        have alH := tab_al tbH
        have dvH := dv3.same sm
        have hraH := ffH _ _ nra hra6
        clear sm sm3 ff3 tb3' al3' hzs3 hra3 dv3 ff2 f12 ff1
        walk_at "fl.q"
        refine g_ifJ (fun b G => b = false ∧ Same H' G) (fun RR hRR => ?_) (fun b G4 hb => ?_)
        · walk_at "fl.w"
          rw [show ((rs.length : Nat) : Int).toNat = run.length by omega]
          refine lcR (S := [tP K mg]) (fun i => (((List.range run.length).map fun a => (mtV fo k run a []).isNone)[i]?).map PyData.bool) alH (by omega) ?_ ?_
          · intro D j H7 hD hj sm7 al7 R N hR2 hN
            rw [Int.zero_add]
            have ff7 : Fr [tP K mg] H6 H7 := fun a o n e => sm7 _ _ (ffH a o n e)
            refine g_name ⟨rfl, ?_⟩
            walk_at "fl.w"
            refine ⟨[tP K mg], fo, l, j, k, run, vf, .ref tr, em, [], rfl, fun b m => al7 b (List.mem_cons_of_mem _ m), dF6.fr ff7, dr6.fr ff7, .inr (hE.sq _), fok, hk, rok, hj, fun H8 sm8 => ?_⟩
            walk_at "fl.w"
            have ej : (opI (mtV fo k run j []) = V.non) ↔ (mtV fo k run j []).isNone = true := by
              cases mtV fo k run j [] with
              | none => simp [opI]
              | some i => simp [opI]
            refine hR2 (.bool (mtV fo k run j []).isNone) _ _ (by rw [List.getElem?_map, List.getElem?_range hj]; rfl) sm8 ?_
            rw [show decide (opI (mtV fo k run j []) = V.non) = (mtV fo k run j []).isNone by
              cases mtV fo k run j [] with
              | none => simp [opI]
              | some i => simp [opI]]
            exact .bl _
          intro D H7 sm7 hD hq7
          rw [fm_ltA (by rw [List.length_map, List.length_range])] at hq7
          obtain ⟨_, ys, ey, nD, hys, hY⟩ := hq7.lstE
          cases ey
          obtain rfl := bools_of hY
          refine g_allL (SqL.of hys) ?_
          have ff7 : Fr [tP K mg] H6 H7 := fun a o n e => sm7 _ _ (ffH a o n e)
          cases hall : ((List.range run.length).map fun a => (mtV fo k run a []).isNone).all id with
          | false =>
            walk_at "fl.w"
            exact hRR _ _ ⟨rfl, sm7⟩
          | true =>
            have eap : apV fo k [] run = run := ap_id fun a ha => by
              have := List.all_eq_true.mp hall (mtV fo k run a []).isNone (List.mem_map.mpr ⟨a, List.mem_range.mpr ha, rfl⟩)
              exact Option.isNone_iff_eq_none.mp this
            walk_at "fl.w"
            have dv7 := dvH.same sm7
            rw [eap] at dv7
            refine g_neD' dv7 (dr6.fr ff7) (sh_run _) (sh_run _) ?_
            rw [eqv_self (sh_run _)]
            walk_at "fl.w"
            exact hRR _ _ ⟨rfl, sm7⟩
        obtain ⟨rfl, sm4⟩ := hb
        have ff4 : Fr [tP K mg] H6 G4 := fun a o n e => sm4 _ _ (ffH a o n e)
        have tb4' := tab_same tbH sm4
        have al4' := tab_al tb4'
        have ha44' := ff4 _ _ na44 ha46
        have hka4 := ff4 _ _ nka hka
        have hL4' := hL6.fr ff4
        clear sm4 hraH dvH alH tbH ffH
        walk_at "fl.w"
        rename_i p1 hp1 p2 hp2 p3 hp3 p4 hp4 p5 hp5
        have s1 : Same G4 (upd G4 p1 (.lst (List.take l ls4))) := Fl.Same.new hp1
        have al1 := al4'.same s1
        have n2 := al1.ni hp2
        have al2 := al1.newH (u := .lst []) hp2
        have n3 := al2.ni hp3
        have al3 := al2.newH (u := .tup [V.str k.kind, V.ref p2, V.bl k.ign]) hp3
        have al5 := al3.newH (u := .lst [V.ref p3]) hp4
        have n5 := al5.ni hp5
        have r2 := raw_new (u := .lst (List.take l ls4 ++ [V.ref p3])) hp5 (raw_new (u := .lst [V.ref p3]) hp4 (raw_new (u := .tup [V.str k.kind, V.ref p2, V.bl k.ign]) hp3 (upd_same (H := upd G4 p1 (.lst (List.take l ls4))) (a := p2) (o := .lst []))))
        have r3 := raw_new (u := .lst (List.take l ls4 ++ [V.ref p3])) hp5 (raw_new (u := .lst [V.ref p3]) hp4 (upd_same (H := upd (upd G4 p1 (.lst (List.take l ls4))) p2 (.lst [])) (a := p3) (o := .tup [V.str k.kind, V.ref p2, V.bl k.ign])))
        have r5 := upd_same (H := upd (upd (upd (upd G4 p1 (.lst (List.take l ls4))) p2 (.lst [])) p3 (.tup [V.str k.kind, V.ref p2, V.bl k.ign])) p4 (.lst [V.ref p3])) (a := p5) (o := .lst (List.take l ls4 ++ [V.ref p3]))
        have s5 := (s1.trans (Fl.Same.new (o := .lst []) hp2)).trans (((Fl.Same.new (o := .tup [V.str k.kind, V.ref p2, V.bl k.ign]) hp3).trans (Fl.Same.new (o := .lst [V.ref p3]) hp4)).trans (Fl.Same.new (o := .lst (List.take l ls4 ++ [V.ref p3])) hp5))
        generalize upd (upd (upd (upd (upd G4 p1 (.lst (List.take l ls4))) p2 (.lst [])) p3 (.tup [V.str k.kind, V.ref p2, V.bl k.ign])) p4 (.lst [V.ref p3])) p5 (.lst (List.take l ls4 ++ [V.ref p3])) = G5 at r2 r3 r5 s5 ⊢
        have al5' := al4'.same s5
        have ha45 := s5 _ _ ha44'
        have dK : Dq [tP K mg] G5 (.ref p3) (lkT (baK k)) := .tup n3 r3 (.cons (.str _) (.cons (.lst n2 r2 .nil) (.cons (.bl _) .nil)))
        have hL5 : DqA [tP K mg] G5 ls4 (fo.lks.map lkT) := hL4'.same s5
        have dA : DqA [tP K mg] G5 (List.take l ls4 ++ [V.ref p3]) ((fo.lks.map lkT).take l ++ [lkT (baK k)]) := (hL5.take l).app (.cons dK .nil)
        refine g_slF (k := l + 1) (SqL.of ha45) fun p6 hp6 => ?_
        have hl20 := fok.l
        refine g_cat (raw_new (u := .lst (ls4.drop (l + 1))) hp6 r5) upd_same (by simp only [List.length_append, List.length_take, List.length_drop, List.length_cons, List.length_nil]; omega) fun p7 hp7 => ?_
        have s6 : Same G5 (upd G5 p6 (.lst (ls4.drop (l + 1)))) := Fl.Same.new hp6
        have al6' := al5'.same s6
        have dB : Dq [tP K mg] (upd (upd G5 p6 (.lst (ls4.drop (l + 1)))) p7 (.lst (List.take l ls4 ++ [V.ref p3] ++ ls4.drop (l + 1)))) (.ref p7) (.list ((baF fo l k).lks.map lkT)) := by
          refine .newL al6' hp7 ?_
          unfold baF
          rw [List.map_append, List.map_append, List.map_take, List.map_drop]
          exact (dA.app (hL5.drop (l + 1))).same s6
        have s7 := s6.trans (Fl.Same.new (o := .lst (List.take l ls4 ++ [V.ref p3] ++ ls4.drop (l + 1))) hp7)
        generalize upd (upd G5 p6 (.lst (ls4.drop (l + 1)))) p7 (.lst (List.take l ls4 ++ [V.ref p3] ++ ls4.drop (l + 1))) = G7 at dB s7 ⊢
        have s47 := s5.trans s7
        have ff7 : Fr [tP K mg] H6 G7 := fun a o n e => s47 _ _ (ff4 a o n e)
        have tb7 := tab_same tb4' s47
        have al7 := tab_al tb7
        clear dA dK hL5 r2 r3 r5 s5 s6 s7 al5' al6' hp1 hp2 hp3 hp4 hp5 hp6 hp7 al1 al2 al3 al5 n2 n3 n5 s1 ha45
        walk_at "fl.w"
        refine spD_app [tP K mg] [.int fo.glyphs.length, .list ((fo.glyphs.map GlV.mark).map .bool), .list ((fo.glyphs.map GlV.adv).map .int), .list ((baF fo l k).lks.map lkT)] (foD (cs mg) (baF fo l k).R) al7 (.cons (.int _) (.cons (hx26.fr ff7) (.cons (hx36.fr ff7) (.cons dB .nil)))) ⟨baF fo l k, ba_ok fok hk, rfl, rfl⟩ (fun vb H8 sm8 dB8 => ?_)
        have ff8 : Fr [tP K mg] H6 H8 := fun a o n e => sm8 _ _ (ff7 a o n e)
        have tb8 := tab_same tb7 sm8
        have al8 := tab_al tb8
        have hra8 := ff8 _ _ nra hra6
        walk_at "fl.w"
        rename_i tg htg
        have eg : upd H8 tg (.lst rs) tg = some (.lst rs) := upd_same
        have f8g : Fr [tP K mg] H8 (upd H8 tg (.lst rs)) := Fr.new htg
        have tbg : LamX.TabS (upd H8 tg (.lst rs)) (tP K mg) tq := tab_same tb8 (Fl.Same.new htg)
        have dg : Dq [tP K mg] (upd H8 tg (.lst rs)) (.ref tg) (ruD run) := .newL al8 htg (hR6.fr ff8)
        generalize upd H8 tg (.lst rs) = H9 at eg f8g tbg dg ⊢
        refine ⟨[tP K mg], baF fo l k, l, baK k, run, [], vb, .ref tg, ea, rfl, by simp, tab_al tbg, tbg, dB8.fr f8g, dg, fun H' _ => .inr (hA.sq H'), ba_ok fok hk, ba_out out3, ba_at hk, rok, by omega, fun b3 H10 f10 tb10 _ dv10 => ?_⟩
        rw [ap_id (fun a ha => mt_bare rfl)] at dv10
        have ff10 := ff8.trans (f8g.trans f10)
        walk_at "fl.w"
        refine g_neD' dv10 (dr6.fr ff10) (sh_run _) (sh_run _) ?_
        rw [eqv_self (sh_run _)]
        walk_at "fl.w"
        exact ⟨⟨_, _, _, _, _, _, _, _, _, rfl⟩, ff10, tb10⟩
    · intro σ' H' ⟨⟨u9, u12, u13, u14, u15, u16, u17, u18, u19, e⟩, _, _⟩
      subst e
      walk_at "fl.w"
      exact q _
end

section
variable {P : Program} {w : World} {K : PySem.W.Frag} {mg : Str → Option Value} {base : Heap}
end
namespace He2
open He
theorem facts {l : PySem.W.OpenLaw} {w : World} {K : PySem.W.Frag} {h : Heap} {mg : Str → Option Value} {fa : Addr} (X : K.In h) (G : h.Ns mainGlobals mg) (hfa : mg "law" = some (.ref fa)) (c : obsC cks dfs tbs K = valT dfs tbs w) :
    ∃ fd : FuncData, (∀ (s : Shared) (v : Value), BindsTo s fd ⟨[v], []⟩ [("script", v)]) ∧ (∀ base : Heap, K.In base → base.Ns mainGlobals mg → (∀ p, p ∈ ([(109, 105)] : List (Addr × Addr)) → LamX.TabB base mg p.1 p.2) → FnOk l.prog w K mg base CX0 18 fa fd ["script"] (spLaw K mg)) ∧ (∀ p, p ∈ ([(109, 105)] : List (Addr × Addr)) → K.lookup p.2 = none ∧ PySem.W.codeHdIn K p.1 p.2 = true) ∧ codA K (adr mg "apply_rules") = 109 ∧ tabA K (codA K (adr mg "apply_rules")) = 105 := by
  have T : Txt K mg := ⟨free_g X G (saysC_chk c 0 rfl),
    free_g X G (saysC_chk c 1 rfl),
    free_g X G (saysC_chk c 2 rfl),
    free_g X G (saysC_chk c 3 rfl),
    free_g X G (saysC_chk c 4 rfl),
    free_g X G (saysC_chk c 5 rfl),
    free_g X G (saysC_chk c 6 rfl),
    free_g X G (saysC_chk c 7 rfl),
    free_g X G (saysC_chk c 8 rfl),
    free_g X G (saysC_chk c 9 rfl),
    free_g X G (saysC_chk c 10 rfl),
    free_g X G (saysC_chk c 11 rfl),
    free_g X G (saysC_chk c 12 rfl),
    int_g X G (saysC_chk c 13 rfl),
    int_g X G (saysC_chk c 14 rfl),
    int_g X G (saysC_chk c 15 rfl),
    int_g X G (saysC_chk c 16 rfl),
    int_g X G (saysC_chk c 17 rfl),
    int_g X G (saysC_chk c 18 rfl),
    int_g X G (saysC_chk c 19 rfl),
    int_g X G (saysC_chk c 20 rfl),
    int_g X G (saysC_chk c 21 rfl),
    ⟨dflAt ("match", none) 0 K, em_ok (saysC_chk c 22 rfl), defInD_of (He.glo_ok X G (saysC_chk c 23 rfl)) (saysC_def c 0 rfl)⟩,
    defIn_of (He.glo_ok X G (saysC_chk c 24 rfl)) (saysC_def c 1 rfl),
    defIn_of (He.glo_ok X G (saysC_chk c 25 rfl)) (saysC_def c 2 rfl),
    defIn_of (He.glo_ok X G (saysC_chk c 26 rfl)) (saysC_def c 3 rfl),
    defIn_of (He.glo_ok X G (saysC_chk c 27 rfl)) (saysC_def c 4 rfl),
    defIn_of (He.glo_ok X G (saysC_chk c 28 rfl)) (saysC_def c 5 rfl),
    defIn_of (He.glo_ok X G (saysC_chk c 29 rfl)) (saysC_def c 6 rfl),
    defIn_of (He.glo_ok X G (saysC_chk c 30 rfl)) (saysC_def c 7 rfl),
    defIn_of (He.glo_ok X G (saysC_chk c 31 rfl)) (saysC_def c 8 rfl),
    defIn_of (He.glo_ok X G (saysC_chk c 32 rfl)) (saysC_def c 9 rfl),
    defIn_of (He.glo_ok X G (saysC_chk c 33 rfl)) (saysC_def c 10 rfl),
    defIn_of (He.glo_ok X G (saysC_chk c 34 rfl)) (saysC_def c 11 rfl),
    defIn_of (He.glo_ok X G (saysC_chk c 35 rfl)) (saysC_def c 12 rfl),
    defIn_of (He.glo_ok X G (saysC_chk c 36 rfl)) (saysC_def c 13 rfl),
    defIn_of (He.glo_ok X G (saysC_chk c 37 rfl)) (saysC_def c 14 rfl),
    defIn_of (He.glo_ok X G (saysC_chk c 38 rfl)) (saysC_def c 15 rfl),
    defIn_of (He.glo_ok X G (saysC_chk c 39 rfl)) (saysC_def c 16 rfl),
    defIn_of (He.glo_ok X G (saysC_chk c 40 rfl)) (saysC_def c 17 rfl),
    defIn_of (He.glo_ok X G (saysC_chk c 41 rfl)) (saysC_def c 18 rfl),
    defIn_of (He.glo_ok X G (saysC_chk c 42 rfl)) (saysC_def c 19 rfl),
    defIn_of (He.glo_ok X G (saysC_chk c 43 rfl)) (saysC_def c 20 rfl),
    defIn_of (He.glo_ok X G (saysC_chk c 44 rfl)) (saysC_def c 21 rfl),
    defIn_of (He.glo_ok X G (saysC_chk c 45 rfl)) (saysC_def c 22 rfl),
    defIn_of (He.glo_ok X G (saysC_chk c 46 rfl)) (saysC_def c 23 rfl),
    defIn_of (He.glo_ok X G (saysC_chk c 47 rfl)) (saysC_def c 24 rfl),
    defIn_of (He.glo_ok X G (saysC_chk c 48 rfl)) (saysC_def c 25 rfl),
    defIn_of (He.glo_ok X G (saysC_chk c 49 rfl)) (saysC_def c 26 rfl),
    defIn_of (He.glo_ok X G (saysC_chk c 50 rfl)) (saysC_def c 27 rfl),
    defIn_of (He.glo_ok X G (saysC_chk c 51 rfl)) (saysC_def c 28 rfl),
    defIn_of (He.glo_ok X G (saysC_chk c 52 rfl)) (saysC_def c 29 rfl),
    defIn_of (He.glo_ok X G (saysC_chk c 53 rfl)) (saysC_def c 30 rfl),
    defIn_of (He.glo_ok X G (saysC_chk c 54 rfl)) (saysC_def c 31 rfl),
    defIn_of (He.glo_ok X G (saysC_chk c 55 rfl)) (saysC_def c 32 rfl),
    defIn_of (He.glo_ok X G (saysC_chk c 56 rfl)) (saysC_def c 33 rfl),
    defIn_of (He.glo_ok X G (saysC_chk c 57 rfl)) (saysC_def c 34 rfl),
    defIn_of (He.glo_ok X G (saysC_chk c 58 rfl)) (saysC_def c 35 rfl),
    defIn_of (He.glo_ok X G (saysC_chk c 59 rfl)) (saysC_def c 36 rfl),
    defIn_of (He.glo_ok X G (saysC_chk c 60 rfl)) (saysC_def c 37 rfl),
    defIn_of (He.glo_ok X G (saysC_chk c 61 rfl)) (saysC_def c 38 rfl),
    defIn_of (He.glo_ok X G (saysC_chk c 62 rfl)) (saysC_def c 39 rfl),
    defIn_of (He.glo_ok X G (saysC_chk c 63 rfl)) (saysC_def c 40 rfl),
    defIn_of (He.glo_ok X G (saysC_chk c 64 rfl)) (saysC_def c 41 rfl),
    defIn_of (He.glo_ok X G (saysC_chk c 65 rfl)) (saysC_def c 42 rfl),
    defIn_of (He.glo_ok X G (saysC_chk c 66 rfl)) (saysC_def c 43 rfl),
    defIn_of (He.glo_ok X G (saysC_chk c 67 rfl)) (saysC_def c 44 rfl),
    defIn_of (He.glo_ok X G (saysC_chk c 68 rfl)) (saysC_def c 45 rfl),
    defIn_of (He.glo_ok X G (saysC_chk c 69 rfl)) (saysC_def c 46 rfl),
    defIn_of (He.glo_ok X G (saysC_chk c 70 rfl)) (saysC_def c 47 rfl),
    defIn_of (He.glo_ok X G (saysC_chk c 71 rfl)) (saysC_def c 48 rfl),
    defIn_of (He.glo_ok X G (saysC_chk c 72 rfl)) (saysC_def c 49 rfl),
    defIn_of (He.glo_ok X G (saysC_chk c 73 rfl)) (saysC_def c 50 rfl),
    defIn_of (He.glo_ok X G (saysC_chk c 74 rfl)) (saysC_def c 51 rfl),
    defIn_of (He.glo_ok X G (saysC_chk c 75 rfl)) (saysC_def c 52 rfl),
    defIn_of (He.glo_ok X G (saysC_chk c 76 rfl)) (saysC_def c 53 rfl),
    defIn_of (He.glo_ok X G (saysC_chk c 77 rfl)) (saysC_def c 54 rfl),
    defIn_of (He.glo_ok X G (saysC_chk c 78 rfl)) (saysC_def c 55 rfl),
    defIn_of (He.glo_ok X G (saysC_chk c 79 rfl)) (saysC_def c 56 rfl),
    defIn_of (He.glo_ok X G (saysC_chk c 80 rfl)) (saysC_def c 57 rfl),
    defIn_of (He.glo_ok X G (saysC_chk c 81 rfl)) (saysC_def c 58 rfl),
    defIn_of (He.glo_ok X G (saysC_chk c 82 rfl)) (saysC_def c 59 rfl),
    ⟨dflAt ("apply_rules", none) 0 K, em_ok (saysC_chk c 83 rfl), defInD_of (He.glo_ok X G (saysC_chk c 84 rfl)) (saysC_def c 60 rfl)⟩,
    defIn_of (He.glo_ok X G (saysC_chk c 85 rfl)) (saysC_def c 61 rfl),
    defIn_of (He.glo_ok X G (saysC_chk c 86 rfl)) (saysC_def c 62 rfl),
    ⟨kwAt "Glyph" "parts" K, kwAt "Glyph" "anchors" K, kwAt "Glyph" "deltas" K, kwAt "Glyph" "hint" K, em_ok (saysC_chk c 89 rfl), em_ok (saysC_chk c 90 rfl), em_ok (saysC_chk c 91 rfl), em_ok (saysC_chk c 92 rfl), clsI_ok X G (saysC_chk c 87 rfl) (saysC_chk c 88 rfl) (saysC_def c 63 rfl)⟩,
    ⟨kwAt "Rule" "back" K, kwAt "Rule" "ahead" K, kwAt "Rule" "out" K, kwAt "Rule" "calls" K, em_ok (saysC_chk c 95 rfl), em_ok (saysC_chk c 96 rfl), em_ok (saysC_chk c 97 rfl), em_ok (saysC_chk c 98 rfl), clsI_ok X G (saysC_chk c 93 rfl) (saysC_chk c 94 rfl) (saysC_def c 64 rfl)⟩,
    clsI_ok X G (saysC_chk c 99 rfl) (saysC_chk c 100 rfl) (saysC_def c 65 rfl),
    ⟨kwAt "Font" "chars" K, kwAt "Font" "lookups" K, kwAt "Font" "features" K, kwAt "Font" "axes" K, kwAt "Font" "regions" K, kwAt "Font" "functions" K, kwAt "Font" "presets" K, em_ok (saysC_chk c 103 rfl), em_ok (saysC_chk c 104 rfl), em_ok (saysC_chk c 105 rfl), em_ok (saysC_chk c 106 rfl), em_ok (saysC_chk c 107 rfl), em_ok (saysC_chk c 108 rfl), em_ok (saysC_chk c 109 rfl), clsI_ok X G (saysC_chk c 101 rfl) (saysC_chk c 102 rfl) (saysC_def c 66 rfl)⟩,
    glo_g X G (saysC_chk c 110 rfl),
    fun H => tup_a X G (saysC_chk c 110 rfl) (saysC_chk c 111 rfl) H,
    glo_g X G (saysC_chk c 112 rfl),
    fun H => tup_a X G (saysC_chk c 112 rfl) (saysC_chk c 113 rfl) H,
    glo_g X G (saysC_chk c 114 rfl),
    fun H => tup_a X G (saysC_chk c 114 rfl) (saysC_chk c 115 rfl) H⟩
  have I : InsK K w mg := ⟨glo_g X G (saysC_chk c 121 rfl), (by rw [glo_a X G (saysC_chk c 121 rfl)]; exact saysC_tab c 0 rfl), (by rw [glo_a X G (saysC_chk c 121 rfl)]; exact (List.forall_mem_cons.mpr ⟨(by obtain ⟨t, e, hs⟩ := ent_ok (saysC_chk c 116 rfl); exact ⟨t, 1, 1, e, hs, by simp⟩), (List.forall_mem_cons.mpr ⟨(by obtain ⟨t, e, hs⟩ := ent_ok (saysC_chk c 117 rfl); exact ⟨t, 1, 1, e, hs, by simp⟩), (List.forall_mem_cons.mpr ⟨(by obtain ⟨t, e, hs⟩ := ent_ok (saysC_chk c 118 rfl); exact ⟨t, 2, 4, e, hs, by simp⟩), (List.forall_mem_cons.mpr ⟨(by obtain ⟨t, e, hs⟩ := ent_ok (saysC_chk c 119 rfl); exact ⟨t, 1, 4, e, hs, by simp⟩), (List.forall_mem_cons.mpr ⟨(by obtain ⟨t, e, hs⟩ := ent_ok (saysC_chk c 120 rfl); exact ⟨t, 1, 1, e, hs, by simp⟩), (List.forall_mem_nil _)⟩)⟩)⟩)⟩)⟩))⟩
  obtain ⟨fd, F⟩ := (saysC_def c 10 rfl)
  have e := hfa.symm.trans (He.glo_ok X G (saysC_chk c 33 rfl))
  cases e
  have b := FunD.bindsA (ps := ["script"]) F fun _ _ _ _ _ _ us hl => match us, hl with | [_], _ => rfl
  obtain ⟨t1, t2, n0, h0⟩ : codA K (ga K "apply_rules") = 109 ∧ tabA K 109 = 105 ∧ PySem.W.codeHdIn K 109 105 = true ∧ K.lookup 105 = none := tab_ok (saysC_chk c 122 rfl)
  have c0 : codA K (adr mg "apply_rules") = 109 := by rw [glo_a X G (saysC_chk c 84 rfl)]; exact t1
  have p0 : tabA K (codA K (adr mg "apply_rules")) = 105 := by rw [c0]; exact t2
  exact ⟨fd, fun s v => b s [v] rfl, fun base _ _ TB => ok_law T I (by show LamX.TabB base mg (codA K (adr mg "apply_rules")) (tabA K (codA K (adr mg "apply_rules"))); rw [p0, c0]; exact TB (109, 105) (by simp)) (fun_of F), (fun p m => by
    simp only [List.mem_cons, List.not_mem_nil, or_false] at m
    rcases m with rfl
    all_goals first | exact ⟨h0, n0⟩), c0, p0⟩
end He2
end K22
open PySem PySem.W PyProof.Rows
set_option maxHeartbeats 0 in
theorem PySem.Challenge.cw_fleuron_k22_lookups_one_after_another_holds : PySem.Challenge.rw_fleuron_k22_lookups_one_after_another.Holds := by
  w_on; o_law
  refine HandSHeadRun.head_any (r := OpenLaw.row PySem.Challenge.rw_fleuron_k22_lookups_one_after_another) (q := K22.He2.qv) (H := Fl.hookT K22.He2.pls K22.He2.tps K22.He2.cks K22.He2.dfs K22.He2.tbs) (ob := Fl.obT K22.He2.pls K22.He2.tps K22.He2.cks K22.He2.dfs K22.He2.tbs) (M := 20000) (loose := K22.He2.loo) (d := HandSHeadRun.topDef (OpenLaw.row PySem.Challenge.rw_fleuron_k22_lookups_one_after_another).prog 103) (kwd := []) Fl.obT_eq
    (by kernel_rfl) (fun s => by kernel_rfl) K22.He2.run (by kernel_rfl) (by kernel_rfl) (by kernel_rfl) (by rfl) (by first | assumption | decide +kernel) (by decide +kernel) ⟨rfl, rfl, rfl, rfl, rfl, by decide +kernel⟩ ?hw ?hc
  case hw => w_witness2
  case hc =>
    refine LamX.walk_ofTsE (l := PySem.Challenge.rw_fleuron_k22_lookups_one_after_another) (n := 63) (k := 18) (x := "script") (CX := fun _ => L2.CX0) rfl (by decide) (by kernel_rfl) ⟨rfl, by decide, by decide⟩ ?F (fun _ _ _ _ _ z => z)
    intro w mg fa h Y G hmg0
    obtain ⟨⟨K, KX, c⟩, hP⟩ := Y
    have hmg : mg ("law" : PySem.Str) = some (.ref fa) := by
      have e : (HandSHeadRun.topDef (OpenLaw.row PySem.Challenge.rw_fleuron_k22_lookups_one_after_another).prog 103).name = ("law" : PySem.Str) := by kernel_rfl
      rw [← e]
      exact hmg0
    obtain ⟨fd, hb, hF, ht, c0, p0⟩ := K22.He2.facts (l := PySem.Challenge.rw_fleuron_k22_lookups_one_after_another) (w := w) KX G hmg c
    refine ⟨K, KX, ?_⟩
    unfold LamX.LawAtS
    refine ⟨fd, [(109, 105)], K22.spLaw K mg, fun p m => hP _ ?_, fun p m => (ht p m).1, fun p m => PySem.W.codeHd_of_K KX (ht p m).2, hb, fun H a ns hl _ hT hS => ⟨a, ns, rfl, hS, hl, (by rw [p0]; exact hT (109, 105) (by simp)), fun _ => rfl⟩, hF⟩
    simp only [List.mem_cons, List.not_mem_nil, or_false] at m
    rcases m with rfl
    all_goals decide

section
end
